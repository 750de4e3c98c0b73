import PyProof.Rows.All
import PySem.Challenge.RW_probelots_k17_whole_other_numbers_of_thi
import Wide.All
import OpenK.AllK
import Wide.FinOn
import PyProof.EqAt
import PyProof.EqKinds
import PyProof.TupleCall
import Open.SpecLaws
import KE.OsGo
import HandS.HeadHook3
import HandS.EndTab
import HandS.MakeKwOnly
import HandS.ForMost
import HandS.Lambda
import HandS.Walk
import HandS.TupAny
import HandS.Zip
import HandS.Defaults
import HandS.IsInst
import HandS.Conv
import HandS.TupSets
import HandS.CallLocal
import KE.GoesEnum
import KE.GoesMore
import HandS.RepeatKit
import HandS.Dict
import HandS.DictTup
import HandS.TupLen
import HandS.TupMul
import HandS.SetBool
import HandS.NoneIn
import HandS.More
import HandS.WrittenGet
import KE.KUnpackStar
import HandS.FStr
import KE.KExcSuper
import KE.KExcPX
import HandS.Base
import HandS.Call
import HandS.Exc
import HandS.ExcInit
import HandS.ExcValue
import HandS.ForExc
import HandS.WordsExc
import HandS.Small
import HandS.ExcIs
import HandS.ExcField
import KE.KExcIs
import HandS.ExcOwn
import HandS.Iter
import KE.KDflt
import PyProof.DefCall
import HandS.Comp
import HandS.SortKw
import KE.SortKeyHeap
import HandS.ForDict
import HandS.MakeKw
import HandS.FStrTup
import HandS.Steps
import HandS.Gcd
import HandS.Wide
import HandS.Deep
import KE.SortData
import KE.SortLaws
import PyProof.P3Eq
set_option Elab.async false
set_option linter.all false
set_option maxRecDepth 100000
set_option maxHeartbeats 4000000
/-! A layer over HandS: expressions and statements by the DATA that the slots hold. -/
namespace Dv
open PySem PySem.Spec L2
open PyProof.Rows hiding St
/-- the drawing row at a: its list of four, the script known -/
def RowAt (K : PySem.W.Frag) (H : Hp) (a : Addr) : Prop := ∃ (sc : Addr) (ns : List Int) (i c m : Int), H a = some (.lst [.ref sc, .int i, .int c, .int m]) ∧ SqL K H sc (ns.map V.int) ∧
  0 ≤ i ∧ 0 ≤ m ∧ m < 2147483647
/-- what may be written over: nothing, a list, a set of tuples, an object with fields -/
def Fre (H : Hp) (p : Addr) : Prop := H p = none ∨ (∃ xs, H p = some (.lst xs)) ∨ (∃ (P : Program) (w : World) (L : List (Addr × List Int)), H p = some (SetTO P w p L)) ∨ ∃ (C dx : Addr) (fs : List (Str × V)), H p = some (.ins C dx fs)
/-- a code object is no set -/
theorem heap_of_size : ∀ n : Nat, ∃ h : Heap, h.objs.size = n
  | 0 => ⟨{}, rfl⟩
  | n + 1 => by
    obtain ⟨h, e⟩ := heap_of_size n
    exact ⟨h.push { cls := .none, data := .plain }, by rw [Heap.size_push, e]⟩
theorem codeO_set {P : Program} {w : World} {c : Addr} {q : Str} {L : List (Addr × List Int)} (e : LamX.CodeO c q = SetTO P w c L) : False := by
  unfold LamX.CodeO SetTO at e
  injection e with e
  obtain ⟨h, hs⟩ := heap_of_size c
  have z := congrFun e (h.push { cls := .none, data := .fields #[.none, .str q 0] })
  have g : (h.push { cls := .none, data := .fields #[.none, .str q 0] }).get? c = some { cls := .none, data := .fields #[.none, .str q 0] } := by
    rw [← hs]
    exact Heap.get?_push_size _ rfl
  have y := (iff_of_eq z).mp ⟨_, _, 0, g, rfl, rfl⟩
  obtain ⟨es, ep, t, ⟨o, ho, _, hd⟩, _⟩ := y.ex
  rw [g] at ho
  cases ho
  cases hd
/-- the world of a proof: r, the row; X, what may change; J, what is kept of the heap -/
structure Wd (K : PySem.W.Frag) (T : List (Addr × Str)) where
  r : Option Addr
  X : Addr → Prop
  J : Hp → Prop
  ju : ∀ {H : Hp} {p : Addr} {o : HO}, J H → Fre H p → ¬ X p → J (upd H p o)
  jx : ∀ {H : Hp} {a : Addr}, J H → X a → H a ≠ none
  xc : ∀ {H : Hp} {a : Addr} {q : Str}, J H → X a → H a ≠ some (LamX.CodeO a q)
  jt : ∀ {H H1 : Hp}, J H → LamX.ExtN H H1 → LamX.Tabs T H1 → J H1
  jT : ∀ {H : Hp}, J H → LamX.Tabs T H
  rx : ∀ {a : Addr}, r = some a → X a
  row : ∀ {H : Hp} {a : Addr}, J H → r = some a → RowAt K H a
  jw : ∀ {H : Hp} {a sc : Addr} {i c m i' c' m' : Int}, J H → r = some a → H a = some (.lst [.ref sc, .int i, .int c, .int m]) → 0 ≤ i' → 0 ≤ m' → m' < 2147483647 → J (upd H a (.lst [.ref sc, .int i', .int c', .int m']))
section
variable {K : PySem.W.Frag} {T : List (Addr × Str)}
structure Ex (W : Wd K T) (H H' : Hp) : Prop where
  k : ∀ a o, H a = some o → (∀ ps, o ≠ .tbl ps) → ¬ W.X a → H' a = some o
variable {W W2 : Wd K T}
theorem Ex.refl (H : Hp) : Ex W H H := ⟨fun _ _ h _ _ => h⟩
theorem Ex.trans {H H1 H2 : Hp} (a : Ex W H H1) (b : Ex W H1 H2) : Ex W H H2 := ⟨fun x o h n r => b.k x o (a.k x o h n r) n r⟩
theorem Ex.new {H : Hp} {p : Addr} {o : HO} (h : H p = none) : Ex W H (upd H p o) := ⟨fun a u e _ _ => by
  rw [upd_ne (ne_of_none e h)]
  exact e⟩
/-- a new object that H1 does not know may change -/
theorem Ex.mut {H H1 H' : Hp} {p : Addr} {o : HO} (e1 : Ex W H H1) (n : H1 p = none) (e : Ex W H1 H') : Ex W H (upd H' p o) := ⟨fun a u ha hn hr => by
  have q := e1.k a u ha hn hr
  rw [upd_ne (ne_of_none q n)]
  exact e.k a u q hn hr⟩
theorem Ex.out {H H' : Hp} {p : Addr} {o : HO} (e : Ex W H H') (hp : W.X p) : Ex W H (upd H' p o) := ⟨fun a u ha hn hr => by
  have q : a ≠ p := fun z => hr (by rw [z]; exact hp)
  rw [upd_ne q]
  exact e.k a u ha hn hr⟩
theorem Ex.same {H H' : Hp} (e : ∀ b o, H b = some o → H' b = some o) : Ex W H H' := ⟨fun a o h _ _ => e a o h⟩
theorem Ex.extN {H H' : Hp} (e : LamX.ExtN H H') : Ex W H H' := ⟨fun a o h n _ => e a o h n⟩
theorem new_ne {H : Hp} {p : Addr} (j : W.J H) (h : H p = none) : ¬ W.X p := fun z => W.jx j z h
theorem j_new {H : Hp} {p : Addr} {o : HO} (j : W.J H) (h : H p = none) : W.J (upd H p o) := W.ju j (.inl h) (new_ne j h)
/-- p was new on the way from H to H' -/
def Fr (W : Wd K T) (H : Hp) (p : Addr) (H' : Hp) : Prop := ∃ H1, Ex W H H1 ∧ H1 p = none ∧ Ex W H1 H'
theorem Fr.ex {H H' : Hp} {p : Addr} (f : Fr W H p H') : Ex W H H' := let ⟨_, a, _, b⟩ := f; a.trans b
theorem Fr.pre {H0 H H' : Hp} {p : Addr} (e : Ex W H0 H) (f : Fr W H p H') : Fr W H0 p H' := let ⟨h, a, n, b⟩ := f; ⟨h, e.trans a, n, b⟩
theorem Fr.post {H H' H2 : Hp} {p : Addr} (f : Fr W H p H') (e : Ex W H' H2) : Fr W H p H2 := let ⟨h, a, n, b⟩ := f; ⟨h, a, n, b.trans e⟩
theorem Fr.mut {H H' : Hp} {p : Addr} {o : HO} (f : Fr W H p H') : Ex W H (upd H' p o) := let ⟨_, a, n, b⟩ := f; a.mut n b
theorem Fr.new {H : Hp} {p : Addr} {o : HO} (h : H p = none) : Fr W H p (upd H p o) := ⟨H, .refl H, h, .new h⟩
/-! ### data -/
mutual
inductive D (W : Wd K T) (H : Hp) : V → PyData → Prop
  | non : D W H .non .none
  | bl (b : Bool) : D W H (.bl b) (.bool b)
  | int (i : Int) : D W H (.int i) (.int i)
  | str (x : Str) : D W H (.str x) (.str x)
  | lst {a : Addr} {xs : List V} {ds : List PyData} : ¬ W.X a → H a = some (.lst xs) → DAll W H xs ds → D W H (.ref a) (.list ds)
  | tup {a : Addr} {xs : List V} {ds : List PyData} : ¬ W.X a → H a = some (.tup xs) → DAll W H xs ds → D W H (.ref a) (.tuple ds)
inductive DAll (W : Wd K T) (H : Hp) : List V → List PyData → Prop
  | nil : DAll W H [] []
  | cons {v : V} {vs : List V} {d : PyData} {ds : List PyData} : D W H v d → DAll W H vs ds → DAll W H (v :: vs) (d :: ds)
end
mutual
theorem D.mono {H H' : Hp} (e : Ex W H H') : ∀ {v : V} {d : PyData}, D W H v d → D W H' v d
  | _, _, .non => .non
  | _, _, .bl b => .bl b
  | _, _, .int i => .int i
  | _, _, .str x => .str x
  | _, _, .lst r h a => .lst r (e.k _ _ h (fun _ z => by cases z) r) (DAll.mono e a)
  | _, _, .tup r h a => .tup r (e.k _ _ h (fun _ z => by cases z) r) (DAll.mono e a)
theorem DAll.mono {H H' : Hp} (e : Ex W H H') : ∀ {vs : List V} {ds : List PyData}, DAll W H vs ds → DAll W H' vs ds
  | _, _, .nil => .nil
  | _, _, .cons a b => .cons (D.mono e a) (DAll.mono e b)
end
mutual
/-- another world, in which no known object is taken out -/
theorem D.to {H : Hp} (e : ∀ a o, H a = some o → ¬ W.X a → ¬ W2.X a) : ∀ {v : V} {d : PyData}, D W H v d → D W2 H v d
  | _, _, .non => .non
  | _, _, .bl b => .bl b
  | _, _, .int i => .int i
  | _, _, .str x => .str x
  | _, _, .lst r h a => .lst (e _ _ h r) h (DAll.to e a)
  | _, _, .tup r h a => .tup (e _ _ h r) h (DAll.to e a)
theorem DAll.to {H : Hp} (e : ∀ a o, H a = some o → ¬ W.X a → ¬ W2.X a) : ∀ {vs : List V} {ds : List PyData}, DAll W H vs ds → DAll W2 H vs ds
  | _, _, .nil => .nil
  | _, _, .cons a b => .cons (D.to e a) (DAll.to e b)
end
mutual
theorem D.dp {H : Hp} {K' : PySem.W.Frag} : ∀ {v : V} {d : PyData}, D W H v d → Dp K' H v d
  | _, _, .non => .non
  | _, _, .bl b => .bl b
  | _, _, .int i => .int i
  | _, _, .str x => .str x
  | _, _, .lst r h a => .lst (SqL.of h) (DAll.dp a)
  | _, _, .tup r h a => .tup (SqT.of h) (DAll.dp a)
theorem DAll.dp {H : Hp} {K' : PySem.W.Frag} : ∀ {vs : List V} {ds : List PyData}, DAll W H vs ds → DpAll K' H vs ds
  | _, _, .nil => .nil
  | _, _, .cons a b => .cons (D.dp a) (DAll.dp b)
end
theorem DAll.length {H : Hp} : ∀ {vs : List V} {ds : List PyData}, DAll W H vs ds → vs.length = ds.length
  | _, _, .nil => rfl
  | _, _, .cons _ t => by rw [List.length_cons, List.length_cons, DAll.length t]
theorem DAll.get {H : Hp} : ∀ {vs : List V} {ds : List PyData} {i : Nat} {d : PyData}, DAll W H vs ds → ds[i]? = some d → ∃ v, vs[i]? = some v ∧ D W H v d
  | _, _, _, _, .nil, e => by simp at e
  | _, _, 0, _, .cons r _, e => by simp at e; subst e; exact ⟨_, rfl, r⟩
  | _, _, i + 1, d, .cons _ t, e => by
    obtain ⟨u, h1, h2⟩ := DAll.get (i := i) (d := d) t (by simpa using e)
    exact ⟨u, by simpa using h1, h2⟩
theorem DAll.getV {H : Hp} : ∀ {vs : List V} {ds : List PyData} {i : Nat} {v : V}, DAll W H vs ds → vs[i]? = some v → ∃ d, ds[i]? = some d ∧ D W H v d
  | _, _, _, _, .nil, e => by simp at e
  | _, _, 0, _, .cons r _, e => by simp at e; subst e; exact ⟨_, rfl, r⟩
  | _, _, i + 1, v, .cons _ t, e => by
    obtain ⟨u, h1, h2⟩ := DAll.getV (i := i) (v := v) t (by simpa using e)
    exact ⟨u, by simpa using h1, h2⟩
theorem DAll.append {H : Hp} : ∀ {xs ys : List V} {ds es : List PyData}, DAll W H xs ds → DAll W H ys es → DAll W H (xs ++ ys) (ds ++ es)
  | _, _, _, _, .nil, s => s
  | _, _, _, _, .cons r t, s => .cons r (DAll.append t s)
theorem DAll.one {H : Hp} {v : V} {d : PyData} (h : D W H v d) : DAll W H [v] [d] := .cons h .nil
theorem DAll.take {H : Hp} : ∀ {xs : List V} {ds : List PyData} (n : Nat), DAll W H xs ds → DAll W H (xs.take n) (ds.take n)
  | _, _, 0, _ => .nil
  | _, _, _ + 1, .nil => .nil
  | _, _, n + 1, .cons r t => .cons r (DAll.take n t)
theorem DAll.drop {H : Hp} : ∀ {xs : List V} {ds : List PyData} (n : Nat), DAll W H xs ds → DAll W H (xs.drop n) (ds.drop n)
  | _, _, 0, r => r
  | _, _, _ + 1, .nil => .nil
  | _, _, n + 1, .cons _ t => DAll.drop n t
theorem DAll.nil_iff {H : Hp} {xs : List V} {ds : List PyData} (h : DAll W H xs ds) : xs = [] ↔ ds = [] := by
  have q := h.length
  constructor
  · intro e; subst e; exact List.eq_nil_of_length_eq_zero q.symm
  · intro e; subst e; exact List.eq_nil_of_length_eq_zero q
theorem D.int_inv {H : Hp} {v : V} {i : Int} (h : D W H v (.int i)) : v = .int i := by cases h; rfl
theorem D.bool_inv {H : Hp} {v : V} {b : Bool} (h : D W H v (.bool b)) : v = .bl b := by cases h; rfl
theorem D.none_inv {H : Hp} {v : V} (h : D W H v .none) : v = .non := by cases h; rfl
theorem D.tup_inv {H : Hp} {v : V} {ds : List PyData} (h : D W H v (.tuple ds)) : ∃ a xs, v = .ref a ∧ ¬ W.X a ∧ H a = some (.tup xs) ∧ DAll W H xs ds := by cases h with | tup r h a => exact ⟨_, _, rfl, r, h, a⟩
theorem D.lst_inv {H : Hp} {v : V} {ds : List PyData} (h : D W H v (.list ds)) : ∃ a xs, v = .ref a ∧ ¬ W.X a ∧ H a = some (.lst xs) ∧ DAll W H xs ds := by cases h with | lst r h a => exact ⟨_, _, rfl, r, h, a⟩
/-! ### exceptions -/
/-- an exception: its class, its fields -/
structure Xd where
  C : Addr
  fs : Option (List (Str × PyData))
inductive XD (W : Wd K T) (H : Hp) : Value → Option Addr → Xd → Prop
  | non {C : Addr} : XD W H (.ref C) none ⟨C, none⟩
  | wth {C dd : Addr} {vs : List (Str × V)} {ds : List (Str × PyData)} : ¬ W.X dd → H dd = some (.xd vs) → Paired (fun p q => p.1 = q.1 ∧ D W H p.2 q.2) vs ds → XD W H (.ref C) (some dd) ⟨C, some ds⟩
theorem fds_mono {H H' : Hp} (e : Ex W H H') {vs : List (Str × V)} {ds : List (Str × PyData)} (r : Paired (fun p q => p.1 = q.1 ∧ D W H p.2 q.2) vs ds) : Paired (fun p q => p.1 = q.1 ∧ D W H' p.2 q.2) vs ds := by
  induction r with
  | nil => exact .nil
  | cons a _ ih => exact .cons ⟨a.1, a.2.mono e⟩ ih
theorem fds_to {H : Hp} (e : ∀ a o, H a = some o → ¬ W.X a → ¬ W2.X a) {vs : List (Str × V)} {ds : List (Str × PyData)} (r : Paired (fun p q => p.1 = q.1 ∧ D W H p.2 q.2) vs ds) : Paired (fun p q => p.1 = q.1 ∧ D W2 H p.2 q.2) vs ds := by
  induction r with
  | nil => exact .nil
  | cons a _ ih => exact .cons ⟨a.1, a.2.to e⟩ ih
theorem XD.mono {H H' : Hp} (e : Ex W H H') {c : Value} {d : Option Addr} {x : Xd} (h : XD W H c d x) : XD W H' c d x := by
  cases h with
  | non => exact .non
  | wth n a r => exact .wth n (e.k _ _ a (fun _ z => by cases z) n) (fds_mono e r)
theorem XD.to {H : Hp} (e : ∀ a o, H a = some o → ¬ W.X a → ¬ W2.X a) {c : Value} {d : Option Addr} {x : Xd} (h : XD W H c d x) : XD W2 H c d x := by
  cases h with
  | non => exact .non
  | wth n a r => exact .wth (e _ _ a n) a (fds_to e r)
/-! ### what a slot holds -/
inductive Ob where
  | dat (d : PyData) | row | cnt (n : Nat) | fn (f : Addr) | exc (a : Addr) (c : Value) (d : Option Addr) (x : Xd) | keep (v : V) (l : List (Addr × HO))
inductive OD (W : Wd K T) (H : Hp) : V → Ob → Prop
  | dat {v : V} {d : PyData} : D W H v d → OD W H v (.dat d)
  | row {a : Addr} : W.r = some a → OD W H (.ref a) .row
  | cnt {a : Addr} {kvs : List (List Key × V)} : ¬ W.X a → H a = some (.dT kvs) → OD W H (.ref a) (.cnt kvs.length)
  | fn {f : Addr} : OD W H (.ref f) (.fn f)
  | exc {a : Addr} {c : Value} {d : Option Addr} {x : Xd} : XD W H c d x → OD W H (.ref a) (.exc a c d x)
  | keep {v : V} {l : List (Addr × HO)} : (∀ p ∈ l, H p.1 = some p.2 ∧ ¬ W.X p.1 ∧ ∀ ps, p.2 ≠ .tbl ps) → OD W H v (.keep v l)
theorem OD.mono {H H' : Hp} (e : Ex W H H') {v : V} {o : Ob} (h : OD W H v o) : OD W H' v o := by
  cases h with
  | dat h => exact .dat (h.mono e)
  | row h => exact .row h
  | cnt n h => exact .cnt n (e.k _ _ h (fun _ z => by cases z) n)
  | fn => exact .fn
  | exc h => exact .exc (h.mono e)
  | keep h => exact .keep fun p hp => ⟨e.k _ _ (h p hp).1 (h p hp).2.2 (h p hp).2.1, (h p hp).2⟩
abbrev Ctx := List (Option Ob)
structure Sl (W : Wd K T) (H : Hp) (σ : L2.St) (G : Ctx) : Prop where
  len : G.length = σ.length
  at_ : ∀ (i : Nat) (o : Ob), G[i]? = some (some o) → ∃ v, σ[i]? = some (some v) ∧ OD W H v o
theorem Sl.mono {H H' : Hp} {σ : L2.St} {G : Ctx} (e : Ex W H H') (h : Sl W H σ G) : Sl W H' σ G := ⟨h.len, fun i o q => let ⟨v, a, b⟩ := h.at_ i o q; ⟨v, a, b.mono e⟩⟩
theorem Sl.to {H : Hp} {σ : L2.St} {G : Ctx} (e : ∀ a o, H a = some o → ¬ W.X a → ¬ W2.X a) (er : W2.r = W.r) (h : Sl W H σ G) : Sl W2 H σ G := ⟨h.len, fun i o q => by
  obtain ⟨v, a, b⟩ := h.at_ i o q
  refine ⟨v, a, ?_⟩
  cases b with
  | dat b => exact .dat (b.to e)
  | row b => exact .row (er.trans b)
  | cnt n b => exact .cnt (e _ _ b n) b
  | fn => exact .fn
  | exc b => exact .exc (b.to e)
  | keep b => exact .keep fun p hp => ⟨(b p hp).1, e _ _ (b p hp).1 (b p hp).2.1, (b p hp).2.2⟩⟩
theorem Sl.set {H : Hp} {σ : L2.St} {G : Ctx} {i : Nat} {v : V} {o : Ob} (h : Sl W H σ G) (q : OD W H v o) : Sl W H (σ.set i (some v)) (G.set i (some o)) := ⟨by simpa using h.len, fun j u e => by
  by_cases hj : i = j
  · subst hj
    by_cases hl : i < G.length
    · rw [List.getElem?_set_self hl] at e
      cases e
      exact ⟨v, by rw [List.getElem?_set_self (by rw [← h.len]; exact hl)], q⟩
    · rw [List.getElem?_eq_none (by simpa using hl)] at e
      cases e
  · rw [List.getElem?_set_ne hj] at e
    rw [List.getElem?_set_ne hj]
    exact h.at_ j u e⟩
theorem Sl.unset {H : Hp} {σ : L2.St} {G : Ctx} {i : Nat} (h : Sl W H σ G) : Sl W H (σ.set i none) (G.set i none) := ⟨by simpa using h.len, fun j u e => by
  by_cases hj : i = j
  · subst hj
    by_cases hl : i < G.length
    · rw [List.getElem?_set_self hl] at e
      cases e
    · rw [List.getElem?_eq_none (by simpa using hl)] at e
      cases e
  · rw [List.getElem?_set_ne hj] at e
    rw [List.getElem?_set_ne hj]
    exact h.at_ j u e⟩
theorem Sl.weak {H : Hp} {σ : L2.St} {G G' : Ctx} (h : Sl W H σ G) (hl : G'.length = G.length) (w : ∀ (i : Nat) (o : Ob), G'[i]? = some (some o) → G[i]? = some (some o)) : Sl W H σ G' := ⟨hl.trans h.len, fun i o q => h.at_ i o (w i o q)⟩
def wipeG (G : Ctx) : List Nat → Ctx
  | [] => G
  | v :: vs => (wipeG G vs).set v none
theorem Sl.wipe {H : Hp} {σ : L2.St} {G : Ctx} (h : Sl W H σ G) : ∀ vs : List Nat, Sl W H (L2.wipe σ vs) (wipeG G vs)
  | [] => h
  | v :: vs => (Sl.wipe h vs).unset
end
theorem wipe_get {σ : L2.St} {k : Nat} : ∀ {vs : List Nat}, (L2.wipe σ vs)[k]? = if k ∈ vs then (σ[k]?).map (fun _ => none) else σ[k]?
  | [] => by simp [L2.wipe]
  | v :: vs => by
    unfold L2.wipe
    by_cases hv : v = k
    · subst hv
      rw [if_pos (List.mem_cons_self ..)]
      by_cases hl : v < (L2.wipe σ vs).length
      · rw [List.getElem?_set_self hl]
        rw [wipe_length] at hl
        rw [List.getElem?_eq_getElem hl]
        rfl
      · rw [List.getElem?_eq_none (by simpa using hl)]
        rw [wipe_length] at hl
        rw [List.getElem?_eq_none (by omega)]
        rfl
    · rw [List.getElem?_set_ne hv, wipe_get (vs := vs)]
      by_cases hm : k ∈ vs
      · rw [if_pos hm, if_pos (List.mem_cons_of_mem _ hm)]
      · rw [if_neg hm, if_neg (by simp only [List.mem_cons, not_or]; exact ⟨fun z => hv z.symm, hm⟩)]
theorem wipe_same {σ σ' : L2.St} {vs : List Nat} (hl : σ'.length = σ.length) (h : ∀ k, k ∉ vs → σ'[k]? = σ[k]?) : L2.wipe σ' vs = L2.wipe σ vs := by
  apply List.ext_getElem?
  intro k
  rw [wipe_get, wipe_get]
  by_cases hk : k ∈ vs
  · rw [if_pos hk, if_pos hk]
    by_cases h1 : k < σ.length
    · rw [List.getElem?_eq_getElem h1, List.getElem?_eq_getElem (show k < σ'.length by omega)]
      rfl
    · rw [List.getElem?_eq_none (by omega), List.getElem?_eq_none (by omega)]
  · rw [if_neg hk, if_neg hk]
    exact h k hk
theorem wipe_wipe {σ : L2.St} {vs : List Nat} : L2.wipe (L2.wipe σ vs) vs = L2.wipe σ vs := wipe_same (wipe_length σ vs) fun k hk => by rw [wipe_get, if_neg hk]
section
variable {K : PySem.W.Frag} {T : List (Addr × Str)} {W W2 : Wd K T}
/-! ### expressions -/
/-- te gives data of which P holds -/
def E (K : PySem.W.Frag) (T : List (Addr × Str)) (te : TE) (G : Ctx) (P : PyData → Prop) : Prop := ∀ (W : Wd K T) (σ : L2.St) (H : Hp), Sl W H σ G → W.J H → ∀ Q : VK, (∀ v d H', Ex W H H' → W.J H' → D W H' v d → P d → Q v H') → te σ H Q
/-- te gives a new list -/
def EL (K : PySem.W.Frag) (T : List (Addr × Str)) (te : TE) (G : Ctx) (P : List PyData → Prop) : Prop := ∀ (W : Wd K T) (σ : L2.St) (H : Hp), Sl W H σ G → W.J H → ∀ Q : VK, (∀ p xs ds H', Fr W H p H' → W.J H' → ¬ W.X p → H' p = some (.lst xs) → DAll W H' xs ds → P ds → Q (.ref p) H') → te σ H Q
def EA (K : PySem.W.Frag) (T : List (Addr × Str)) (ta : TA) (G : Ctx) (P : List Ob → Prop) : Prop := ∀ (W : Wd K T) (σ : L2.St) (H : Hp), Sl W H σ G → W.J H → ∀ Q : List V → Hp → Prop, (∀ vs os H', Ex W H H' → W.J H' → Paired (OD W H') vs os → P os → Q vs H') → ta σ H Q
def ET (K : PySem.W.Frag) (T : List (Addr × Str)) (tt : TT) (G : Ctx) (P : Bool → Prop) : Prop := ∀ (W : Wd K T) (σ : L2.St) (H : Hp), Sl W H σ G → W.J H → ∀ Q : Bool → Hp → Prop, (∀ b H', Ex W H H' → W.J H' → P b → Q b H') → tt σ H Q
variable {G : Ctx} {ta tb tc te : TE} {t u : TT}
theorem E.imp {P P' : PyData → Prop} (h : E K T te G P) (i : ∀ d, P d → P' d) : E K T te G P' := fun W σ H s j Q q => h W σ H s j Q fun v d H' e j' a p => q v d H' e j' a (i d p)
theorem E.is {d d' : PyData} (h : E K T te G (· = d)) (e : d = d') : E K T te G (· = d') := h.imp fun _ z => z.trans e
theorem ET.imp {P P' : Bool → Prop} (h : ET K T t G P) (i : ∀ d, P d → P' d) : ET K T t G P' := fun W σ H s j Q q => h W σ H s j Q fun v H' e j' p => q v H' e j' (i v p)
theorem ET.is {b b' : Bool} (h : ET K T t G (· = b)) (e : b = b') : ET K T t G (· = b') := h.imp fun _ z => z.trans e
theorem EL.imp {P P' : List PyData → Prop} (h : EL K T te G P) (i : ∀ d, P d → P' d) : EL K T te G P' := fun W σ H s j Q q => h W σ H s j Q fun p xs ds H' e j' n h' a b => q p xs ds H' e j' n h' a (i ds b)
theorem EL.e {P : List PyData → Prop} (h : EL K T te G P) : E K T te G (fun d => ∃ ds, d = .list ds ∧ P ds) := fun W σ H s j Q q => h W σ H s j Q fun p xs ds H' e j' n h' a b =>
  q (.ref p) (.list ds) H' e.ex j' (.lst n h' a) ⟨ds, rfl, b⟩
theorem EL.is {ds : List PyData} (h : EL K T te G (· = ds)) : E K T te G (· = .list ds) := h.e.imp fun d ⟨x, e, z⟩ => by rw [e, z]
theorem e_var {i : Nat} {d : PyData} (h : G[i]? = some (some (.dat d)) := by rfl) : E K T (tVar i) G (· = d) := fun W σ H s j Q q => by
  obtain ⟨v, h1, h2⟩ := s.at_ i _ h
  cases h2 with
  | dat h2 => exact ⟨v, h1, q v d H (.refl H) j h2 rfl⟩
theorem e_int {i : Int} : E K T (tC (.int i)) G (· = .int i) := fun W σ H s j Q q => q _ _ H (.refl H) j (.int i) rfl
theorem e_non : E K T (tC .non) G (· = .none) := fun W σ H s j Q q => q _ _ H (.refl H) j .non rfl
theorem e_bl {b : Bool} : E K T (tC (.bl b)) G (· = .bool b) := fun W σ H s j Q q => q _ _ H (.refl H) j (.bl b) rfl
theorem e_str {x : Str} : E K T (tC (.str x)) G (· = .str x) := fun W σ H s j Q q => q _ _ H (.refl H) j (.str x) rfl
/-- a two-place operation on data -/
def RD (K : PySem.W.Frag) (T : List (Addr × Str)) (r : R2) (P Q' R : PyData → Prop) : Prop := ∀ (W : Wd K T) (H : Hp) (x y : V) (d e : PyData), W.J H → D W H x d → D W H y e → P d → Q' e → ∀ Q : VK, (∀ v z H', Ex W H H' → W.J H' → D W H' v z → R z → Q v H') → r x y H Q
theorem e_op {r : R2} {P Q R : PyData → Prop} (ha : E K T ta G P) (hb : E K T tb G Q) (hr : RD K T r P Q R) : E K T (tOp r ta tb) G R := fun W σ H s j Kk q =>
  ha W σ H s j _ fun x d H1 e1 j1 dx px => hb W σ H1 (s.mono e1) j1 _ fun y e H2 e2 j2 dy py => hr W H2 x y d e j2 (dx.mono e2) dy px py Kk fun v z H3 e3 j3 dz pz => q v z H3 ((e1.trans e2).trans e3) j3 dz pz
theorem rd_I0 {g : Int → Int → V} {i j : Int} {z : PyData} (hz : ∀ (W : Wd K T) H, D W H (g i j) z) : RD K T (rI0 g) (· = .int i) (· = .int j) (· = z) := fun W H x y d e jh dx dy px py Q q => by
  subst px py
  exact ⟨i, j, dx.int_inv, dy.int_inv, q _ _ H (.refl H) jh (hz W H) rfl⟩
theorem rd_I {C : Int → Int → Prop} {g : Int → Int → V} {i j : Int} {z : PyData} (hc : C i j) (hz : ∀ (W : Wd K T) H, D W H (g i j) z) : RD K T (rI C g) (· = .int i) (· = .int j) (· = z) := fun W H x y d e jh dx dy px py Q q => by
  subst px py
  exact ⟨i, j, dx.int_inv, dy.int_inv, hc, q _ _ H (.refl H) jh (hz W H) rfl⟩
theorem e_add {i j : Int} (ha : E K T ta G (· = .int i)) (hb : E K T tb G (· = .int j)) : E K T (tOp (rI0 fun i j => .int (i + j)) ta tb) G (· = .int (i + j)) := e_op ha hb (rd_I0 fun _ _ => .int _)
theorem e_sub {i j : Int} (ha : E K T ta G (· = .int i)) (hb : E K T tb G (· = .int j)) : E K T (tOp (rI0 fun i j => .int (i - j)) ta tb) G (· = .int (i - j)) := e_op ha hb (rd_I0 fun _ _ => .int _)
theorem e_cmp {f : Int → Int → Bool} {i j : Int} (ha : E K T ta G (· = .int i)) (hb : E K T tb G (· = .int j)) : E K T (tOp (rI0 fun i j => .bl (f i j)) ta tb) G (· = .bool (f i j)) := e_op ha hb (rd_I0 fun _ _ => .bl _)
/-- == of scalars -/
def scalD : PyData → PyData → Bool
  | .none, .none => true | .none, .int _ => true | .int _, .none => true | .none, .bool _ => true | .bool _, .none => true | .none, .str _ => true | .str _, .none => true
  | .int _, .int _ => true | .bool _, .bool _ => true | .str _, .str _ => true
  | .int _, .str _ => true | .str _, .int _ => true | .bool _, .str _ => true | .str _, .bool _ => true
  | _, _ => false
def eqD : PyData → PyData → Bool
  | .none, .none => true
  | .int a, .int b => decide (a = b)
  | .bool a, .bool b => decide (a = b)
  | .str a, .str b => decide (a = b)
  | _, _ => false
theorem scal_of {H : Hp} {x y : V} {d e : PyData} (dx : D W H x d) (dy : D W H y e) (h : scalD d e = true) : scal x y = true ∧ decide (x = y) = eqD d e := by
  cases dx <;> cases dy <;> first | (refine ⟨rfl, ?_⟩; simp [eqD]; done) | (refine ⟨rfl, ?_⟩; rfl) | (exact absurd h Bool.false_ne_true)
theorem e_eq {d e : PyData} (ha : E K T ta G (· = d)) (hb : E K T tb G (· = e)) (h : scalD d e = true) : E K T (tOp rEq ta tb) G (· = .bool (eqD d e)) := e_op ha hb fun W H x y d' e' jh dx dy px py Q q => by
  subst px py
  obtain ⟨h1, h2⟩ := scal_of dx dy h
  refine ⟨h1, ?_⟩
  rw [h2]
  exact q _ _ H (.refl H) jh (.bl _) rfl
theorem e_ne {d e : PyData} (ha : E K T ta G (· = d)) (hb : E K T tb G (· = e)) (h : scalD d e = true) : E K T (tOp rNe ta tb) G (· = .bool (!eqD d e)) := e_op ha hb fun W H x y d' e' jh dx dy px py Q q => by
  subst px py
  obtain ⟨h1, h2⟩ := scal_of dx dy h
  refine ⟨h1, ?_⟩
  rw [h2]
  exact q _ _ H (.refl H) jh (.bl _) rfl
/-- == of data of any depth -/
theorem e_eqD {K' : PySem.W.Frag} {d e : PyData} (ha : E K T ta G (· = d)) (hb : E K T tb G (· = e)) (h1 : SeqAt.shaped d = true) (h2 : SeqAt.shaped e = true) : E K T (tOp (rEqD K') ta tb) G (· = .bool (PyData.eqv d e)) := e_op ha hb fun W H x y d' e' jh dx dy px py Q q => by
  subst px py
  exact ⟨_, _, dx.dp, dy.dp, h1, h2, q _ _ H (.refl H) jh (.bl _) rfl⟩
theorem e_neD {K' : PySem.W.Frag} {d e : PyData} (ha : E K T ta G (· = d)) (hb : E K T tb G (· = e)) (h1 : SeqAt.shaped d = true) (h2 : SeqAt.shaped e = true) : E K T (tOp (rNeD K') ta tb) G (· = .bool (!PyData.eqv d e)) := e_op ha hb fun W H x y d' e' jh dx dy px py Q q => by
  subst px py
  exact ⟨_, _, dx.dp, dy.dp, h1, h2, q _ _ H (.refl H) jh (.bl _) rfl⟩
/-- is None -/
def isNone : PyData → Bool
  | .none => true
  | _ => false
theorem none_of {H : Hp} {x : V} {d : PyData} (dx : D W H x d) : decide (x = .non) = isNone d := by cases dx <;> simp [isNone]
theorem e_isN {d : PyData} (ha : E K T ta G (· = d)) : E K T (tIsN ta) G (· = .bool (isNone d)) := fun W σ H s j Q q => ha W σ H s j _ fun x e H1 e1 j1 dx px => by
  subst px
  have z := q _ _ H1 e1 j1 (.bl (isNone _)) rfl
  rw [← none_of dx] at z
  exact z
theorem e_notN {d : PyData} (ha : E K T ta G (· = d)) : E K T (tNotN ta) G (· = .bool (!isNone d)) := fun W σ H s j Q q => ha W σ H s j _ fun x e H1 e1 j1 dx px => by
  subst px
  have z := q _ _ H1 e1 j1 (.bl (!isNone _)) rfl
  rw [← none_of dx] at z
  exact z
/-! tests -/
theorem t_test {b : Bool} (h : E K T te G (· = .bool b)) : ET K T (tTest te) G (· = b) := fun W σ H s j Q q => h W σ H s j _ fun v d H1 e1 j1 dv p => by
  subst p
  exact ⟨b, dv.bool_inv, q b H1 e1 j1 rfl⟩
theorem t_B {b : Bool} (h : E K T te G (· = .bool b)) : ET K T (tB te) G (· = b) := fun W σ H s j Q q => h W σ H s j _ fun v d H1 e1 j1 dv p => by
  subst p
  exact ⟨b, dv.bool_inv, q b H1 e1 j1 rfl⟩
theorem t_any (h : E K T te G (fun d => ∃ b, d = .bool b)) : ET K T (tTest te) G (fun _ => True) := fun W σ H s j Q q => h W σ H s j _ fun v d H1 e1 j1 dv p => by
  obtain ⟨b, rfl⟩ := p
  exact ⟨b, dv.bool_inv, q b H1 e1 j1 trivial⟩
theorem t_yes : ET K T tYes G (· = true) := fun W σ H s j Q q => q true H (.refl H) j rfl
theorem t_not {a : Bool} (h : ET K T t G (· = a)) : ET K T (tNot t) G (· = !a) := fun W σ H s j Q q => h W σ H s j _ fun b H1 e1 j1 p => q _ H1 e1 j1 (by rw [p])
theorem t_and {a b : Bool} (h1 : ET K T t G (· = a)) (h2 : a = true → ET K T u G (· = b)) : ET K T (tAnd t u) G (· = (a && b)) := fun W σ H s j Q q => h1 W σ H s j _ fun c H1 e1 j1 p => by
  subst p
  cases c with
  | true => exact iteT (h2 rfl W σ H1 (s.mono e1) j1 _ fun c H2 e2 j2 p => q c H2 (e1.trans e2) j2 (by rw [p]; rfl))
  | false => exact iteF (q false H1 e1 j1 rfl)
theorem t_or {a b : Bool} (h1 : ET K T t G (· = a)) (h2 : a = false → ET K T u G (· = b)) : ET K T (tOr t u) G (· = (a || b)) := fun W σ H s j Q q => h1 W σ H s j _ fun c H1 e1 j1 p => by
  subst p
  cases c with
  | true => exact iteT (q true H1 e1 j1 rfl)
  | false => exact iteF (h2 rfl W σ H1 (s.mono e1) j1 _ fun c H2 e2 j2 p => q c H2 (e1.trans e2) j2 (by rw [p]; rfl))
theorem e_andV {a b : Bool} (h1 : E K T ta G (· = .bool a)) (h2 : a = true → E K T tb G (· = .bool b)) : E K T (tAndV ta tb) G (· = .bool (a && b)) := fun W σ H s j Q q => h1 W σ H s j _ fun v d H1 e1 j1 dv p => by
  subst p
  refine ⟨a, dv.bool_inv, ?_⟩
  cases a with
  | true => exact iteT (h2 rfl W σ H1 (s.mono e1) j1 _ fun v d H2 e2 j2 dv p => q v d H2 (e1.trans e2) j2 dv (by rw [p]; rfl))
  | false => exact iteF (q _ _ H1 e1 j1 (.bl false) rfl)
theorem e_orV {a b : Bool} (h1 : E K T ta G (· = .bool a)) (h2 : a = false → E K T tb G (· = .bool b)) : E K T (tOrV ta tb) G (· = .bool (a || b)) := fun W σ H s j Q q => h1 W σ H s j _ fun v d H1 e1 j1 dv p => by
  subst p
  refine ⟨a, dv.bool_inv, ?_⟩
  cases a with
  | true => exact iteT (q _ _ H1 e1 j1 (.bl true) rfl)
  | false => exact iteF (h2 rfl W σ H1 (s.mono e1) j1 _ fun v d H2 e2 j2 dv p => q v d H2 (e1.trans e2) j2 dv (by rw [p]; rfl))
theorem e_notV {a : Bool} (h1 : E K T ta G (· = .bool a)) : E K T (tNotV ta) G (· = .bool !a) := fun W σ H s j Q q => h1 W σ H s j _ fun v d H1 e1 j1 dv p => by
  subst p
  exact ⟨a, dv.bool_inv, q _ _ H1 e1 j1 (.bl _) rfl⟩
theorem e_if {b : Bool} {P : PyData → Prop} (h : ET K T t G (· = b)) (h1 : b = true → E K T ta G P) (h2 : b = false → E K T tb G P) : E K T (tIf t ta tb) G P := fun W σ H s j Q q => h W σ H s j _ fun c H1 e1 j1 p => by
  subst p
  cases c with
  | true => exact iteT (h1 rfl W σ H1 (s.mono e1) j1 _ fun v d H2 e2 j2 dv p => q v d H2 (e1.trans e2) j2 dv p)
  | false => exact iteF (h2 rfl W σ H1 (s.mono e1) j1 _ fun v d H2 e2 j2 dv p => q v d H2 (e1.trans e2) j2 dv p)
/-- a chain of two comparisons of ints -/
theorem e_chain {f g : Int → Int → Bool} {i j k : Int} (ha : E K T ta G (· = .int i)) (hb : E K T tb G (· = .int j)) (hc : E K T tc G (· = .int k)) :
    E K T (tChain (rI0 fun i j => .bl (f i j)) (rI0 fun i j => .bl (g i j)) ta tb tc) G (· = .bool (f i j && g j k)) := fun W σ H s jj Q q => ha W σ H s jj _ fun x d H1 e1 j1 dx px => hb W σ H1 (s.mono e1) j1 _ fun y e H2 e2 j2 dy py => by
  subst px py
  refine ⟨i, j, dx.int_inv, dy.int_inv, f i j, rfl, ?_⟩
  cases hf : f i j with
  | true =>
    refine iteT (hc W σ H2 ((s.mono e1).mono e2) j2 _ fun z c H3 e3 j3 dz pz => ?_)
    subst pz
    exact ⟨j, k, dy.int_inv, dz.int_inv, q _ _ H3 ((e1.trans e2).trans e3) j3 (.bl _) (by rw [hf, Bool.true_and])⟩
  | false => exact iteF (q _ _ H2 (e1.trans e2) j2 (.bl _) (by rw [hf, Bool.false_and]))
/-! arguments -/
theorem a_nil : EA K T tNil G (· = []) := fun W σ H s j Q q => q [] [] H (.refl H) j .nil rfl
theorem a_consP {P : PyData → Prop} {R : List Ob → Prop} {tr : TA} (h : E K T te G P) (hr : EA K T tr G R) : EA K T (tCons te tr) G (fun os => ∃ d r, os = .dat d :: r ∧ P d ∧ R r) := fun W σ H s j Q q =>
  h W σ H s j _ fun v d H1 e1 j1 dv p => hr W σ H1 (s.mono e1) j1 _ fun vs os H2 e2 j2 dvs ps => q (v :: vs) (.dat d :: os) H2 (e1.trans e2) j2 (.cons (.dat (dv.mono e2)) dvs) ⟨d, os, rfl, p, ps⟩
theorem a_cons {d : PyData} {r : List Ob} {tr : TA} (h : E K T te G (· = d)) (hr : EA K T tr G (· = r)) : EA K T (tCons te tr) G (· = .dat d :: r) := fun W σ H s j Q q =>
  a_consP h hr W σ H s j Q fun vs os H' e j' r ⟨d', r', e1, e2, e3⟩ => q vs os H' e j' r (by rw [e1, e2, e3])
theorem a_row {i : Nat} {R : List Ob} {tr : TA} (hr : EA K T tr G (· = R)) (h : G[i]? = some (some .row) := by rfl) : EA K T (tCons (tVar i) tr) G (· = .row :: R) := fun W σ H s j Q q => by
  obtain ⟨v, h1, h2⟩ := s.at_ i _ h
  exact ⟨v, h1, hr W σ H s j _ fun vs os H2 e2 j2 dvs ps => q (v :: vs) (.row :: os) H2 e2 j2 (.cons (h2.mono e2) dvs) (by rw [ps])⟩
theorem a_fn {f : Addr} {R : List Ob} {tr : TA} (hr : EA K T tr G (· = R)) : EA K T (tCons (tC (.ref f)) tr) G (· = .fn f :: R) := fun W σ H s j Q q => hr W σ H s j _ fun vs os H2 e2 j2 dvs ps => q (.ref f :: vs) (.fn f :: os) H2 e2 j2 (.cons .fn dvs) (by rw [ps])
theorem EA.imp {P P' : List Ob → Prop} {tr : TA} (h : EA K T tr G P) (i : ∀ d, P d → P' d) : EA K T tr G P' := fun W σ H s j Q q => h W σ H s j Q fun vs os H' e j' a p => q vs os H' e j' a (i os p)
theorem EA.is {o o' : List Ob} {tr : TA} (h : EA K T tr G (· = o)) (e : o = o') : EA K T tr G (· = o') := h.imp fun _ z => z.trans e
def dats : List PyData → List Ob := List.map .dat
theorem all_of {H : Hp} : ∀ {ds : List PyData} {vs : List V}, Paired (OD W H) vs (dats ds) → DAll W H vs ds
  | [], _, .nil => .nil
  | _ :: _, _, .cons (.dat h) t => .cons h (all_of t)
theorem e_tup {ds : List PyData} {tr : TA} (h : EA K T tr G (· = dats ds)) (hl : ds.length ≤ 100000) : E K T (tTup tr) G (· = .tuple ds) := fun W σ H s j Q q => h W σ H s j _ fun vs os H1 e1 j1 dv p => by
  subst p
  have a := all_of dv
  refine ⟨Nat.le_trans (by rw [a.length]; exact hl) (by decide), fun x hx => q _ _ _ (e1.trans (.new hx)) (j_new j1 hx) (.tup (new_ne j1 hx) upd_same (a.mono (.new hx))) rfl⟩
theorem el_lst {ds : List PyData} {tr : TA} (h : EA K T tr G (· = dats ds)) (hl : ds.length ≤ 100000) : EL K T (tLst tr) G (· = ds) := fun W σ H s j Q q => h W σ H s j _ fun vs os H1 e1 j1 dv p => by
  subst p
  have a := all_of dv
  exact ⟨Nat.le_trans (by rw [a.length]; exact hl) (by decide), fun x hx => q _ _ _ _ ((Fr.new hx).pre e1) (j_new j1 hx) (new_ne j1 hx) upd_same (a.mono (.new hx)) rfl⟩
end
end Dv
namespace Dv
open PySem PySem.Spec L2
open PyProof.Rows hiding St
section
variable {K : PySem.W.Frag} {T : List (Addr × Str)} {W W2 : Wd K T} {G G' : Ctx} {ta tb tc te : TE} {tt t u : TT}
/-! ### what is walked -/
/-- in W2 no known data are lost -/
def Cp (W W2 : Wd K T) (H : Hp) : Prop := ∀ v d, D W H v d → D W2 H v d
theorem Cp.refl (H : Hp) : Cp W W H := fun _ _ h => h
/-- wi walks n turns, at turn i an item of which yd i holds -/
def Iw (K : PySem.W.Frag) (T : List (Addr × Str)) (wi : TI) (G : Ctx) (n : Nat) (yd : Nat → PyData → Prop) : Prop := ∀ (W : Wd K T) (σ : L2.St) (H : Hp), Sl W H σ G → W.J H → ∀ R : It → Hp → Prop,
  (∀ (J' : It) (H1 : Hp) (Gd : Hp → Prop) (Y : Nat → Hp → V → Hp → Prop), Ex W H H1 → W.J H1 → Walk J' n Gd Y → (∀ (W2 : Wd K T) (H2 : Hp), Cp W W2 H1 → Ex W2 H1 H2 → Gd H2) →
    (∀ (W2 : Wd K T) (i : Nat) (H2 : Hp) (x : V) (H3 : Hp), Cp W W2 H1 → i < n → Ex W2 H1 H2 → W2.J H2 → Y i H2 x H3 → Ex W2 H2 H3 ∧ W2.J H3 ∧ ∃ d, D W2 H3 x d ∧ yd i d) → R J' H1) → wi σ H R
theorem Iw.imp {wi : TI} {n : Nat} {yd yd' : Nat → PyData → Prop} (h : Iw K T wi G n yd) (i : ∀ k d, k < n → yd k d → yd' k d) : Iw K T wi G n yd' := fun W σ H s j R r => h W σ H s j R fun J' H1 Gd Y e1 j1 w g y =>
  r J' H1 Gd Y e1 j1 w g fun W2 k H2 x H3 c hk e2 j2 q => by
    obtain ⟨a, b, d, p, z⟩ := y W2 k H2 x H3 c hk e2 j2 q
    exact ⟨a, b, d, p, i k d hk z⟩
theorem i_list {K' : PySem.W.Frag} {ds : List PyData} (h : E K T te G (· = .list ds)) : Iw K T (iList K' te) G ds.length (fun i d => ds[i]? = some d) := fun W σ H s j R r => h W σ H s j _ fun v d H1 e1 j1 dv p => by
  subst p
  obtain ⟨a, xs, rfl, nx, ha, al⟩ := dv.lst_inv
  have hl := al.length
  refine ⟨a, rfl, ⟨xs, SqL.of ha⟩, ?_⟩
  have w := walk_list (K := K') (a := a) (xs := xs)
  rw [hl] at w
  refine r (Itl K' a) H1 _ _ e1 j1 w (fun W2 H2 c e2 => ?_) fun W2 i H2 x H3 c hi e2 j2 y => ?_
  · obtain ⟨a', xs', ea, nx', ha', al'⟩ := (c _ _ dv).lst_inv
    cases ea
    rw [ha] at ha'; cases ha'
    exact SqL.of (e2.k _ _ ha (fun _ z => by cases z) nx')
  · obtain ⟨rfl, hx⟩ := y
    obtain ⟨a', xs', ea, nx', ha', al'⟩ := (c _ _ dv).lst_inv
    cases ea
    rw [ha] at ha'; cases ha'
    obtain ⟨d, h1, h2⟩ := al'.getV hx
    exact ⟨.refl _, j2, d, h2.mono e2, h1⟩
theorem i_tup {K' : PySem.W.Frag} {ds : List PyData} (h : E K T te G (· = .tuple ds)) : Iw K T (iTup K' te) G ds.length (fun i d => ds[i]? = some d) := fun W σ H s j R r => h W σ H s j _ fun v d H1 e1 j1 dv p => by
  subst p
  obtain ⟨a, xs, rfl, nx, ha, al⟩ := dv.tup_inv
  have hl := al.length
  refine ⟨a, rfl, ⟨xs, SqT.of ha⟩, ?_⟩
  have w := walk_tup (K := K') (a := a) (xs := xs)
  rw [hl] at w
  refine r (Itt K' a) H1 _ _ e1 j1 w (fun W2 H2 c e2 => ?_) fun W2 i H2 x H3 c hi e2 j2 y => ?_
  · obtain ⟨a', xs', ea, nx', ha', al'⟩ := (c _ _ dv).tup_inv
    cases ea
    rw [ha] at ha'; cases ha'
    exact SqT.of (e2.k _ _ ha (fun _ z => by cases z) nx')
  · obtain ⟨rfl, hx⟩ := y
    obtain ⟨a', xs', ea, nx', ha', al'⟩ := (c _ _ dv).tup_inv
    cases ea
    rw [ha] at ha'; cases ha'
    obtain ⟨d, h1, h2⟩ := al'.getV hx
    exact ⟨.refl _, j2, d, h2.mono e2, h1⟩
theorem i_rng1 {n : Int} {tr : TA} (h : EA K T tr G (· = [.dat (.int n)])) (hn : -100000 ≤ n ∧ n ≤ 100000) : Iw K T (iRng1 tr) G n.toNat (fun i d => d = .int i) := fun W σ H s j R r => h W σ H s j _ fun vs os H1 e1 j1 dv p => by
  subst p
  have a := all_of (ds := [.int n]) dv
  cases a with
  | cons a b =>
    cases b
    cases a.int_inv
    refine ⟨n, rfl, by omega, by omega, ?_⟩
    refine r (Itr 0 n.toNat) H1 _ _ e1 j1 walk_range (fun W2 H2 c e2 => trivial) fun W2 i H2 x H3 c hi e2 j2 y => ?_
    obtain ⟨rfl, rfl⟩ := y
    exact ⟨.refl _, j2, .int (i : Nat), by
      show D W2 H3 (V.int (0 + (i : Nat))) _
      rw [Int.zero_add]
      exact .int _, rfl⟩
theorem i_rng2 {lo hi : Int} {tr : TA} (h : EA K T tr G (· = [.dat (.int lo), .dat (.int hi)])) (hn : -100000 ≤ lo ∧ lo ≤ 100000 ∧ -100000 ≤ hi ∧ hi ≤ 100000) : Iw K T (iRng2 tr) G (hi - lo).toNat (fun i d => d = .int (lo + (i : Nat))) := fun W σ H s j R r => h W σ H s j _ fun vs os H1 e1 j1 dv p => by
  subst p
  have a := all_of (ds := [.int lo, .int hi]) dv
  cases a with
  | cons a b =>
    cases b with
    | cons b c =>
      cases c
      cases a.int_inv
      cases b.int_inv
      refine ⟨lo, hi, rfl, ⟨by omega, by omega, by omega, by omega⟩, ?_⟩
      refine r (Itr lo (hi - lo).toNat) H1 _ _ e1 j1 walk_range (fun W2 H2 c e2 => trivial) fun W2 i H2 x H3 c hi e2 j2 y => ?_
      obtain ⟨rfl, rfl⟩ := y
      exact ⟨.refl _, j2, .int (lo + (i : Nat)), .int _, rfl⟩
theorem i_enum {K' : PySem.W.Frag} {ds : List PyData} {tr : TA} (h : EA K T tr G (· = [.dat (.list ds)])) : Iw K T (iEnum K' tr) G ds.length (fun i d => ∃ x, ds[i]? = some x ∧ d = .tuple [.int (i : Nat), x]) := fun W σ H s j R r => h W σ H s j _ fun vs os H1 e1 j1 dv p => by
  subst p
  have a := all_of (ds := [.list ds]) dv
  cases a with
  | cons dz b =>
    cases b
    obtain ⟨a, xs, rfl, nx, ha, al⟩ := dz.lst_inv
    have hl := al.length
    refine ⟨a, xs, rfl, SqL.of ha, ?_⟩
    have w := walk_enum (K := K') (a := a) (xs := xs)
    rw [hl] at w
    refine r (Ite K' a) H1 _ _ e1 j1 w (fun W2 H2 c e2 => ?_) fun W2 i H2 x H3 c hi e2 j2 y => ?_
    · obtain ⟨a', xs', ea, nx', ha', al'⟩ := (c _ _ dz).lst_inv
      cases ea
      rw [ha] at ha'; cases ha'
      exact SqL.of (e2.k _ _ ha (fun _ z => by cases z) nx')
    · obtain ⟨Tp, x1, x2, rfl, hT, rfl, h1, h2⟩ := y
      cases h1
      obtain ⟨a', xs', ea, nx', ha', al'⟩ := (c _ _ dz).lst_inv
      cases ea
      rw [ha] at ha'; cases ha'
      obtain ⟨d, h3, h4⟩ := al'.getV h2
      exact ⟨.new hT, j_new j2 hT, .tuple [.int (i : Nat), d], .tup (new_ne j2 hT) upd_same (.cons (.int _) (.cons ((h4.mono e2).mono (.new hT)) .nil)), d, h3, rfl⟩
theorem i_zipT {K' : PySem.W.Frag} {ds es : List PyData} {tr : TA} (h : EA K T tr G (· = [.dat (.tuple ds), .dat (.tuple es)])) (hlen : ds.length = es.length) :
    Iw K T (RZ.iZipA K' tr) G ds.length (fun i d => ∃ x y, ds[i]? = some x ∧ es[i]? = some y ∧ d = .tuple [x, y]) := fun W σ H s j R r => h W σ H s j _ fun vs os H1 e1 j1 dv p => by
  subst p
  have a := all_of (ds := [.tuple ds, .tuple es]) dv
  cases a with
  | cons dz b =>
    cases b with
    | cons dw b =>
      cases b
      obtain ⟨a, xs, rfl, nx, ha, al⟩ := dz.tup_inv
      obtain ⟨b, ys, rfl, ny, hb, bl⟩ := dw.tup_inv
      have hl := al.length
      have hl2 := bl.length
      refine ⟨a, b, xs, ys, rfl, .inr ⟨SqT.of ha, SqT.of hb, ?_⟩⟩
      refine r (RZ.ItzT K' a b) H1 (fun H => SqT K' H a xs ∧ SqT K' H b ys) (YPair (fun i => xs[i]?) (fun i => ys[i]?)) e1 j1 ⟨fun i H hi q => ?_, fun H q => ⟨xs, ys, q.1, q.2, .inl (by omega)⟩, fun i H v H' hi q y => ?_⟩ (fun W2 H2 c e2 => ?_) fun W2 i H2 x H3 c hi e2 j2 y => ?_
      · exact ⟨xs, ys, xs[i]'(by omega), ys[i]'(by omega), q.1, q.2, List.getElem?_eq_getElem _, List.getElem?_eq_getElem _⟩
      · obtain ⟨T0, x, z, h1, h2, h3, h4, h5⟩ := y
        exact ⟨T0, x, z, h1, h2, h3, h4 xs q.1, h5 ys q.2⟩
      · obtain ⟨a', xs', ea, nx', ha', al'⟩ := (c _ _ dz).tup_inv
        cases ea
        rw [ha] at ha'; cases ha'
        obtain ⟨b', ys', eb, ny', hb', bl'⟩ := (c _ _ dw).tup_inv
        cases eb
        rw [hb] at hb'; cases hb'
        exact ⟨SqT.of (e2.k _ _ ha (fun _ z => by cases z) nx'), SqT.of (e2.k _ _ hb (fun _ z => by cases z) ny')⟩
      · obtain ⟨Tp, x1, x2, rfl, hT, rfl, h1, h2⟩ := y
        obtain ⟨a', xs', ea, nx', ha', al'⟩ := (c _ _ dz).tup_inv
        cases ea
        rw [ha] at ha'; cases ha'
        obtain ⟨b', ys', eb, ny', hb', bl'⟩ := (c _ _ dw).tup_inv
        cases eb
        rw [hb] at hb'; cases hb'
        obtain ⟨d, h3, h4⟩ := al'.getV h1
        obtain ⟨e, h5, h6⟩ := bl'.getV h2
        exact ⟨.new hT, j_new j2 hT, .tuple [d, e], .tup (new_ne j2 hT) upd_same (.cons ((h4.mono e2).mono (.new hT)) (.cons ((h6.mono e2).mono (.new hT)) .nil)), d, e, h3, h5, rfl⟩
/-! ### targets -/
def Tg (K : PySem.W.Frag) (T : List (Addr × Str)) (g : TG) (vs : List Nat) (d : PyData) (G G' : Ctx) : Prop := ∀ (W : Wd K T) (σ : L2.St) (H : Hp) (x : V), Sl W H σ G → D W H x d → ∀ Q : L2.St → Hp → Prop, (∀ σ', Sl W H σ' G' → σ'.length = σ.length → (∀ k, k ∉ vs → σ'[k]? = σ[k]?) → Q σ' H) → g x σ H Q
theorem tg_name {i : Nat} {d : PyData} {vs : List Nat} (hi : i ∈ vs) : Tg K T (gName i) vs d G (G.set i (some (.dat d))) := fun W σ H x s dx Q q =>
  q _ (s.set (.dat dx)) (by simp) fun k hk => List.getElem?_set_ne (fun z => hk (by rw [← z]; exact hi))
theorem tg_pair {K' : PySem.W.Frag} {i i2 : Nat} {d e : PyData} {vs : List Nat} (hi : i ∈ vs) (hi2 : i2 ∈ vs) : Tg K T (gTup K' 2 (gCons (gName i) (gCons (gName i2) gNil))) vs (.tuple [d, e]) G ((G.set i (some (.dat d))).set i2 (some (.dat e))) := fun W σ H x s dx Q q => by
  obtain ⟨a, xs, rfl, nx, ha, al⟩ := dx.tup_inv
  cases al with
  | cons a1 al =>
    cases al with
    | cons a2 al =>
      cases al
      refine ⟨a, _, rfl, SqT.of ha, rfl, _, _, rfl, _, _, rfl, rfl, ?_⟩
      refine q _ ((s.set (.dat a1)).set (.dat a2)) (by simp) fun k hk => ?_
      rw [List.getElem?_set_ne (fun z => hk (by rw [← z]; exact hi2)), List.getElem?_set_ne (fun z => hk (by rw [← z]; exact hi))]
/-! ### comprehensions -/
/-- W, the new list at p taken out -/
def Wd.hide (W : Wd K T) (p : Addr) (hp : ¬ W.X p) (ys : List V) : Wd K T where
  r := W.r
  X := fun a => W.X a ∨ a = p
  J := fun H => W.J H ∧ H p = some (.lst ys)
  ju := fun {H q o} j h n => ⟨W.ju j.1 h fun z => n (.inl z), by
    have e : p ≠ q := fun z => n (.inr z.symm)
    rw [upd_ne e]
    exact j.2⟩
  jx := fun {H a} j x => by
    rcases x with x | rfl
    · exact W.jx j.1 x
    · rw [j.2]
      simp
  xc := fun {H a q} j x => by
    rcases x with x | rfl
    · exact W.xc j.1 x
    · rw [j.2]
      intro z
      have z := Option.some.inj z
      unfold LamX.CodeO at z
      cases z
  jt := fun {H H1} j e t => ⟨W.jt j.1 e t, e _ _ j.2 fun _ w => by cases w⟩
  jT := fun {H} j => W.jT j.1
  rx := fun {a} e => .inl (W.rx e)
  row := fun {H a} j e => W.row j.1 e
  jw := fun {H a sc i c m i' c' m'} j e h h1 h2 h3 => ⟨W.jw j.1 e h h1 h2 h3, by
    have n : p ≠ a := fun z => hp (by rw [z]; exact W.rx e)
    rw [upd_ne n]
    exact j.2⟩
section
variable {p : Addr} {hp : ¬ W.X p} {ys zs : List V} {H H' H1 : Hp}
theorem hide_out (n : H p = none) : ∀ a o, H a = some o → ¬ W.X a → ¬ (W.hide p hp ys).X a := fun a o e h z => by
  rcases z with z | rfl
  · exact h z
  · rw [n] at e
    cases e
theorem hide_ex (n : H1 p = none) (e : Ex (W.hide p hp ys) H1 H') : Ex W H1 H' := ⟨fun a o h t x => e.k a o h t (hide_out (hp := hp) (ys := ys) n a o h x)⟩
theorem ex_hide (e : Ex W H H') : Ex (W.hide p hp ys) H H' := ⟨fun a o h t x => e.k a o h t fun z => x (.inl z)⟩
theorem hide_all {vs : List V} {ds : List PyData} (h : DAll (W.hide p hp ys) H vs ds) : DAll (W.hide p hp zs) H vs ds := DAll.to (W := W.hide p hp ys) (W2 := W.hide p hp zs) (fun _ _ _ n => n) h
end
theorem el_lc {wi : TI} {g : TG} {vs : List Nat} {n : Nat} {yd : Nat → PyData → Prop} (I : Nat → List PyData → Prop) (hi : Iw K T wi G n yd) (h0 : I 0 [])
    (hs : ∀ i d acc, i < n → yd i d → I i acc → ∃ G', Tg K T g vs d (wipeG G vs) G' ∧ ∃ Pb : Bool → Prop, ET K T tt G' Pb ∧ (Pb false → I (i + 1) acc) ∧ (Pb true → ∃ P, E K T te G' P ∧ ∀ y, P y → I (i + 1) (acc ++ [y])))
    (hn : n ≤ 100000) : EL K T (tLc wi g tt te vs) G (I n) := fun W σ H s j Q q => hi W σ H s j _ fun J' H1 Gd Y e1 j1 w hG hY Dl hD => by
  have hp : ¬ W.X Dl := new_ne j1 hD
  refine lc_it w (fun i H' => ∃ xs acc, Ex W H1 H' ∧ W.J H' ∧ H' Dl = some (.lst xs) ∧ DAll (W.hide Dl hp xs) H' xs acc ∧ I i acc ∧ xs.length ≤ i)
    ⟨[], [], .new hD, j_new j1 hD, upd_same, .nil, h0, Nat.le_refl _⟩ (fun i H' _ ⟨xs, acc, e, _⟩ => hG W H' (.refl _) e) (fun i x H' H2 hin ⟨xs, acc, e, j2, hl, al, hI, hlen⟩ y => ?_) fun H' ⟨xs, acc, e, j2, hl, al, hI, hlen⟩ => ?_
  · have cp : Cp W (W.hide Dl hp xs) H1 := fun v d h => h.to (hide_out hD)
    have s1 : Sl (W.hide Dl hp xs) H1 σ G := (s.mono e1).to (hide_out hD) rfl
    obtain ⟨e3, j3, d, dx, yx⟩ := hY (W.hide Dl hp xs) i H' x H2 cp hin (ex_hide e) ⟨j2, hl⟩ y
    obtain ⟨G', tg, Pb, ht, hno, hyes⟩ := hs i d acc hin yx hI
    refine tg (W.hide Dl hp xs) (L2.wipe σ vs) H2 x ((s1.mono ((ex_hide e).trans e3)).wipe vs) dx _ fun σ' s' hl' hk => ⟨(wipe_same hl' hk).trans wipe_wipe, ht _ σ' H2 s' j3 _ fun b H3 e4 j4 pb => ?_⟩
    cases b with
    | false =>
      exact iteF ⟨xs, acc, hide_ex hD (((ex_hide e).trans e3).trans e4), j4.1, j4.2, (al.mono e3).mono e4, hno pb, by omega⟩
    | true =>
      refine iteT ?_
      obtain ⟨P, he, hk2⟩ := hyes pb
      refine he _ σ' H3 (s'.mono e4) j4 _ fun yv dy H4 e5 j5 dyv py => ⟨xs, j5.2, Nat.lt_of_le_of_lt (show xs.length ≤ 100000 by omega) (by decide), xs ++ [yv], acc ++ [dy], ?_, W.ju j5.1 (.inr (.inl ⟨xs, j5.2⟩)) hp, upd_same, ?_, hk2 dy py, ?_⟩
      · exact Ex.mut (.refl H1) hD (hide_ex hD ((((ex_hide e).trans e3).trans e4).trans e5))
      · refine hide_all (ys := xs) (DAll.mono (Ex.out (Ex.refl _) (show (W.hide Dl hp xs).X Dl from Or.inr rfl)) ?_)
        exact (((al.mono e3).mono e4).mono e5).append (.one dyv)
      · rw [List.length_append, List.length_singleton]; omega
  · exact q Dl xs acc H' ⟨H1, e1, hD, e⟩ j2 hp hl (al.to (W2 := W) fun _ _ _ n z => n (Or.inl z)) hI
theorem filter_take {ds : List PyData} {i : Nat} {d : PyData} (h : ds[i]? = some d) (f : PyData → Bool) (v : PyData → PyData) : ((ds.take (i + 1)).filter f).map v = ((ds.take i).filter f).map v ++ (if f d = true then [v d] else []) := by
  rw [List.take_add_one, h, List.filter_append, List.map_append]
  congr 1
  show ([d].filter f).map v = _
  by_cases hf : f d = true
  · rw [if_pos hf, List.filter_cons, if_pos hf]; rfl
  · rw [if_neg hf, List.filter_cons, if_neg hf]; rfl
/-- the i-th walked is the i-th of ds -/
abbrev Iwd (K : PySem.W.Frag) (T : List (Addr × Str)) (wi : TI) (G : Ctx) (ds : List PyData) : Prop := Iw K T wi G ds.length (fun i d => ds[i]? = some d)
theorem el_lcD {wi : TI} {g : TG} {vs : List Nat} {ds : List PyData} (f : PyData → Bool) (v : PyData → PyData) (hi : Iwd K T wi G ds)
    (hs : ∀ d ∈ ds, ∃ G', Tg K T g vs d (wipeG G vs) G' ∧ ET K T tt G' (· = f d) ∧ (f d = true → E K T te G' (· = v d))) (hn : ds.length ≤ 100000) : EL K T (tLc wi g tt te vs) G (· = (ds.filter f).map v) :=
  (el_lc (fun i acc => acc = ((ds.take i).filter f).map v) hi (by simp) (fun i d acc hi hd hI => by
    obtain ⟨G', h1, h2, h3⟩ := hs d (List.mem_of_getElem? hd)
    refine ⟨G', h1, _, h2, fun hf => ?_, fun hf => ⟨_, h3 hf.symm, fun y hy => ?_⟩⟩
    · rw [hI, filter_take hd, if_neg (by rw [← hf]; decide), List.append_nil]
    · rw [hI, hy, filter_take hd, if_pos hf.symm]) hn).imp fun d h => by rw [h, List.take_length]
/-- without a test -/
theorem el_lcM {wi : TI} {g : TG} {vs : List Nat} {ds : List PyData} (v : PyData → PyData) (hi : Iwd K T wi G ds)
    (hs : ∀ d ∈ ds, ∃ G', Tg K T g vs d (wipeG G vs) G' ∧ E K T te G' (· = v d)) (hn : ds.length ≤ 100000) : EL K T (tLc wi g tYes te vs) G (· = ds.map v) :=
  (el_lcD (fun _ => true) v hi (fun d hd => by
    obtain ⟨G', h1, h2⟩ := hs d hd
    exact ⟨G', h1, t_yes, fun _ => h2⟩) hn).imp fun d h => by rw [h, List.filter_eq_self.mpr fun _ _ => rfl]
/-- range(n) as data -/
def rng (n : Nat) : List PyData := (List.range n).map fun (i : Nat) => .int i
theorem rng_length (n : Nat) : (rng n).length = n := by simp [rng]
theorem rng_get {n i : Nat} (h : i < n) : (rng n)[i]? = some (.int i) := by simp [rng, h]
theorem mem_rng {n : Nat} {d : PyData} (h : d ∈ rng n) : ∃ i : Nat, i < n ∧ d = .int i := by
  obtain ⟨i, hi, e⟩ := List.mem_map.mp h
  exact ⟨i, List.mem_range.mp hi, e.symm⟩
theorem i_rngN {n : Nat} {tr : TA} (h : EA K T tr G (· = [.dat (.int n)])) (hn : n ≤ 100000) : Iwd K T (iRng1 tr) G (rng n) := by
  have q := i_rng1 h ⟨by omega, by omega⟩
  rw [Int.toNat_natCast] at q
  unfold Iwd
  rw [rng_length]
  exact q.imp fun k d hk e => by rw [rng_get hk, e]
/-- enumerate as data -/
def enumD (ds : List PyData) : List PyData := ds.zipIdx.map fun p => .tuple [.int p.2, p.1]
theorem enumD_length (ds : List PyData) : (enumD ds).length = ds.length := by simp [enumD]
theorem i_enumD {K' : PySem.W.Frag} {ds : List PyData} {tr : TA} (h : EA K T tr G (· = [.dat (.list ds)])) : Iwd K T (iEnum K' tr) G (enumD ds) := by
  unfold Iwd
  rw [enumD_length]
  refine (i_enum h).imp fun k d hk ⟨x, e1, e2⟩ => ?_
  rw [e2]
  simp [enumD, e1]
def zipD (ds es : List PyData) : List PyData := (ds.zip es).map fun p => .tuple [p.1, p.2]
theorem i_zipD {K' : PySem.W.Frag} {ds es : List PyData} {tr : TA} (h : EA K T tr G (· = [.dat (.tuple ds), .dat (.tuple es)])) (hlen : ds.length = es.length) : Iwd K T (RZ.iZipA K' tr) G (zipD ds es) := by
  unfold Iwd
  have hl : (zipD ds es).length = ds.length := by simp [zipD, hlen]
  rw [hl]
  refine (i_zipT h hlen).imp fun k d hk ⟨x, y, e1, e2, e3⟩ => ?_
  rw [e3]
  simp [zipD, List.zip, List.getElem?_zipWith, e1, e2]
/-! ### calls of built-ins -/
abbrev rLenQ (K : PySem.W.Frag) : List V → Hp → VK → Prop := fun xs H Q => ∃ p ys, xs = [.ref p] ∧ (SqL K H p ys ∨ SqT K H p ys) ∧ Q (.int ys.length) H
abbrev rTupQ (K : PySem.W.Frag) : List V → Hp → VK → Prop := fun xs H Q => ∃ p ys, xs = [.ref p] ∧ ((SqL K H p ys ∧ ∀ l, H l = none → Q (.ref l) (upd H l (.tup ys))) ∨ (SqT K H p ys ∧ Q (.ref p) H))
abbrev rLstQ (K : PySem.W.Frag) : List V → Hp → VK → Prop := fun xs H Q => ∃ p ys, xs = [.ref p] ∧ (SqL K H p ys ∨ SqT K H p ys) ∧ ∀ l, H l = none → Q (.ref l) (upd H l (.lst ys))
abbrev rIntQ : List V → Hp → VK → Prop := fun xs H Q => (∃ i, xs = [.int i] ∧ Q (.int i) H) ∨ ∃ k, xs = [.bl k] ∧ Q (.int (if k then 1 else 0)) H
theorem e_cb {r : List V → Hp → VK → Prop} {tr : TA} {os : List Ob} {P : PyData → Prop} (h : EA K T tr G (· = os))
    (hr : ∀ (W : Wd K T) (H : Hp) (vs : List V), W.J H → Paired (OD W H) vs os → ∀ Q : VK, (∀ v d H', Ex W H H' → W.J H' → D W H' v d → P d → Q v H') → r vs H Q) : E K T (tCB r tr) G P := fun W σ H s j Q q => h W σ H s j _ fun vs os' H1 e1 j1 dv p => by
  subst p
  exact hr W H1 vs j1 dv Q fun v d H2 e2 j2 dv' p => q v d H2 (e1.trans e2) j2 dv' p
theorem one_of {H : Hp} {vs : List V} {d : PyData} (h : Paired (OD W H) vs [.dat d]) : ∃ v, vs = [v] ∧ D W H v d := by
  cases h with
  | cons a b =>
    cases b
    cases a with
    | dat a => exact ⟨_, rfl, a⟩
theorem e_len {K' : PySem.W.Frag} {tr : TA} {d : PyData} {ds : List PyData} (h : EA K T tr G (· = [.dat d])) (hd : d = .list ds ∨ d = .tuple ds) :
    E K T (tCB (rLenQ K') tr) G (· = .int ds.length) := e_cb h fun W H vs j dv Q q => by
  obtain ⟨v, rfl, dw⟩ := one_of dv
  rcases hd with rfl | rfl
  · obtain ⟨a, xs, rfl, nx, ha, al⟩ := dw.lst_inv
    exact ⟨a, xs, rfl, .inl (SqL.of ha), q _ _ H (.refl H) j (.int _) (by rw [al.length])⟩
  · obtain ⟨a, xs, rfl, nx, ha, al⟩ := dw.tup_inv
    exact ⟨a, xs, rfl, .inr (SqT.of ha), q _ _ H (.refl H) j (.int _) (by rw [al.length])⟩
/-- tuple(list) -/
theorem e_tupleL {K' : PySem.W.Frag} {tr : TA} {ds : List PyData} (h : EA K T tr G (· = [.dat (.list ds)])) :
    E K T (tCB (rTupQ K') tr) G (· = .tuple ds) := e_cb h fun W H vs j dv Q q => by
  obtain ⟨v, rfl, dw⟩ := one_of dv
  obtain ⟨a, xs, rfl, nx, ha, al⟩ := dw.lst_inv
  exact ⟨a, xs, rfl, .inl ⟨SqL.of ha, fun l hl => q _ _ _ (.new hl) (j_new j hl) (.tup (new_ne j hl) upd_same (al.mono (.new hl))) rfl⟩⟩
theorem bools_of {H : Hp} : ∀ {bs : List Bool} {xs : List V}, DAll W H xs (bs.map .bool) → xs = bs.map V.bl
  | [], _, .nil => rfl
  | b :: bs, _, .cons a t => by rw [a.bool_inv, bools_of t]; rfl
theorem ints_of {H : Hp} : ∀ {bs : List Int} {xs : List V}, DAll W H xs (bs.map .int) → xs = bs.map V.int
  | [], _, .nil => rfl
  | b :: bs, _, .cons a t => by rw [a.int_inv, ints_of t]; rfl
theorem e_any {K' : PySem.W.Frag} {tr : TA} {bs : List Bool} (h : EA K T tr G (· = [.dat (.list (bs.map .bool))])) : E K T (tCB (rAny K') tr) G (· = .bool (bs.any id)) := e_cb h fun W H vs j dv Q q => by
  obtain ⟨v, rfl, dw⟩ := one_of dv
  obtain ⟨a, xs, rfl, nx, ha, al⟩ := dw.lst_inv
  have e := bools_of al
  subst e
  exact ⟨a, bs, rfl, SqL.of ha, q _ _ H (.refl H) j (.bl _) rfl⟩
theorem e_sum {K' : PySem.W.Frag} {tr : TA} {ns : List Int} (h : EA K T tr G (· = [.dat (.list (ns.map .int))])) : E K T (tCB (rSum K') tr) G (· = .int ns.sum) := e_cb h fun W H vs j dv Q q => by
  obtain ⟨v, rfl, dw⟩ := one_of dv
  obtain ⟨a, xs, rfl, nx, ha, al⟩ := dw.lst_inv
  have e := ints_of al
  subst e
  exact ⟨a, ns, rfl, SqL.of ha, q _ _ H (.refl H) j (.int _) rfl⟩
/-- int(bool) -/
theorem e_intB {tr : TA} {b : Bool} (h : EA K T tr G (· = [.dat (.bool b)])) : E K T (tCB rIntQ tr) G (· = .int (if b then 1 else 0)) := e_cb h fun W H vs j dv Q q => by
  obtain ⟨v, rfl, dw⟩ := one_of dv
  cases dw.bool_inv
  exact .inr ⟨b, rfl, q _ _ H (.refl H) j (.int _) rfl⟩
/-! ### in -/
def flatD : PyData → Bool
  | .none => true | .bool _ => true | .int _ => true | .str _ => true | _ => false
theorem flat_of {H : Hp} {v : V} {d : PyData} (h : D W H v d) (f : flatD d = true) : flatV v = true ∧ ∀ (w : V) (e : PyData), D W H w e → flatD e = true → eqV w v = PyData.eqv e d := by
  cases h <;> first
    | (refine ⟨rfl, fun w e h2 f2 => ?_⟩
       cases h2 <;> first
         | (simp [eqV, PyData.eqv]; done)
         | (exact absurd f2 Bool.false_ne_true))
    | (exact absurd f Bool.false_ne_true)
end
end Dv
namespace Dv
open PySem PySem.Spec L2
open PyProof.Rows hiding St
section
variable {K : PySem.W.Frag} {T : List (Addr × Str)} {W W2 : Wd K T} {G G' : Ctx} {ta tb tc te : TE} {tt : TT}
/-! ### in, subscripts, +, isinstance -/
theorem inV_of {H : Hp} {v : V} {d : PyData} (hv : D W H v d) (f : flatD d = true) : ∀ {xs : List V} {ds : List PyData}, DAll W H xs ds → ds.all flatD = true → xs.all flatV = true ∧ inV v xs = ds.any fun z => PyData.eqv z d
  | _, _, .nil, _ => ⟨rfl, rfl⟩
  | x :: xs, e :: es, .cons a t, h => by
    rw [List.all_cons, Bool.and_eq_true] at h
    obtain ⟨h1, h2⟩ := inV_of hv f t h.2
    refine ⟨by rw [List.all_cons, h1, (flat_of a h.1).1]; rfl, ?_⟩
    unfold inV at h2 ⊢
    rw [List.any_cons, List.any_cons, h2, (flat_of hv f).2 x e a h.1]
theorem e_inSeq {K' : PySem.W.Frag} {neg : Bool} {d s : PyData} {ds : List PyData} (ha : E K T ta G (· = d)) (hb : E K T tb G (· = s)) (hs : s = .list ds ∨ s = .tuple ds) (f : flatD d = true) (fs : ds.all flatD = true) :
    E K T (tOp (rIn K' neg) ta tb) G (· = .bool (if neg then !ds.any fun z => PyData.eqv z d else ds.any fun z => PyData.eqv z d)) := e_op ha hb fun W H x y d' e' jh dx dy px py Q q => by
  subst px py
  rcases hs with rfl | rfl
  · obtain ⟨a, xs, rfl, nx, ha, al⟩ := dy.lst_inv
    obtain ⟨h1, h2⟩ := inV_of dx f al fs
    refine ⟨a, xs, rfl, .inl (SqL.of ha), (flat_of dx f).1, h1, ?_⟩
    rw [h2]
    exact q _ _ H (.refl H) jh (.bl _) rfl
  · obtain ⟨a, xs, rfl, nx, ha, al⟩ := dy.tup_inv
    obtain ⟨h1, h2⟩ := inV_of dx f al fs
    refine ⟨a, xs, rfl, .inr (SqT.of ha), (flat_of dx f).1, h1, ?_⟩
    rw [h2]
    exact q _ _ H (.refl H) jh (.bl _) rfl
theorem e_ixL {K' : PySem.W.Frag} {ds : List PyData} {i : Nat} {d : PyData} (ha : E K T ta G (· = .list ds)) (hb : E K T tb G (· = .int i)) (h : ds[i]? = some d) : E K T (tOp (rIxL K') ta tb) G (· = d) := e_op ha hb fun W H x y d' e' jh dx dy px py Q q => by
  subst px py
  obtain ⟨a, xs, rfl, nx, ha, al⟩ := dx.lst_inv
  cases dy.int_inv
  obtain ⟨v, h1, h2⟩ := al.get h
  exact ⟨a, xs, i, v, rfl, rfl, SqL.of ha, atI_nat h1, q _ _ H (.refl H) jh h2 rfl⟩
/-- one of a list, at a place that is not told -/
theorem e_ixLP {K' : PySem.W.Frag} {ds : List PyData} {P : PyData → Prop} (ha : E K T ta G (· = .list ds)) (hb : E K T tb G (fun d => ∃ i : Nat, i < ds.length ∧ d = .int i)) (hP : ∀ d ∈ ds, P d) : E K T (tOp (rIxL K') ta tb) G P := e_op ha hb fun W H x y d' e' jh dx dy px py Q q => by
  subst px
  obtain ⟨i, hi, rfl⟩ := py
  obtain ⟨a, xs, rfl, nx, ha, al⟩ := dx.lst_inv
  cases dy.int_inv
  obtain ⟨v, h1, h2⟩ := al.get (List.getElem?_eq_getElem hi)
  exact ⟨a, xs, i, v, rfl, rfl, SqL.of ha, atI_nat h1, q _ _ H (.refl H) jh h2 (hP _ (List.getElem_mem hi))⟩
theorem e_ixT {K' : PySem.W.Frag} {ds : List PyData} {i : Nat} {d : PyData} (ha : E K T ta G (· = .tuple ds)) (hb : E K T tb G (· = .int i)) (h : ds[i]? = some d) : E K T (tOp (rIxT K') ta tb) G (· = d) := e_op ha hb fun W H x y d' e' jh dx dy px py Q q => by
  subst px py
  obtain ⟨a, xs, rfl, nx, ha, al⟩ := dx.tup_inv
  cases dy.int_inv
  obtain ⟨v, h1, h2⟩ := al.get h
  exact ⟨a, xs, i, v, rfl, rfl, SqT.of ha, atI_nat h1, q _ _ H (.refl H) jh h2 rfl⟩
/-- tuple + tuple -/
theorem e_catT {K' : PySem.W.Frag} {ds es : List PyData} (ha : E K T ta G (· = .tuple ds)) (hb : E K T tb G (· = .tuple es)) (hl : ds.length + es.length ≤ 100000) : E K T (tOp (rCatA K') ta tb) G (· = .tuple (ds ++ es)) := e_op ha hb fun W H x y d' e' jh dx dy px py Q q => by
  subst px py
  obtain ⟨a, xs, rfl, nx, ha, al⟩ := dx.tup_inv
  obtain ⟨b, ys, rfl, ny, hb, bl⟩ := dy.tup_inv
  refine ⟨a, b, xs, ys, rfl, rfl, SqT.of ha, SqT.of hb, Nat.le_trans (by rw [al.length, bl.length]; exact hl) (by decide), fun e => ?_, fun _ e => ?_, fun _ _ p hp => ?_⟩
  · refine q _ _ H (.refl H) jh (.tup ny hb bl) ?_
    rw [(al.nil_iff).mp e, List.nil_append]
  · refine q _ _ H (.refl H) jh (.tup nx ha al) ?_
    rw [(bl.nil_iff).mp e, List.append_nil]
  · exact q _ _ _ (.new hp) (j_new jh hp) (.tup (new_ne jh hp) upd_same ((al.append bl).mono (.new hp))) rfl
/-- list + list -/
theorem el_cat {ds es : List PyData} (ha : E K T ta G (· = .list ds)) (hb : E K T tb G (· = .list es)) (hl : ds.length + es.length ≤ 100000) : EL K T (tOp rCat ta tb) G (· = ds ++ es) := fun W σ H s j Q q =>
  ha W σ H s j _ fun x d H1 e1 j1 dx px => hb W σ H1 (s.mono e1) j1 _ fun y e H2 e2 j2 dy py => by
    subst px py
    obtain ⟨a, xs, rfl, nx, ha, al⟩ := (dx.mono e2).lst_inv
    obtain ⟨b, ys, rfl, ny, hb, bl⟩ := dy.lst_inv
    exact ⟨a, b, xs, ys, rfl, rfl, ha, hb, Nat.le_trans (by rw [al.length, bl.length]; exact hl) (by decide), fun p hp => q p _ _ _ ((Fr.new hp).pre (e1.trans e2)) (j_new j2 hp) (new_ne j2 hp) upd_same ((al.append bl).mono (.new hp)) rfl⟩
/-- the type of data, as isinstance asks it -/
def tyD : PyData → String
  | .none => "NoneType" | .bool _ => "bool" | .int _ => "int" | .str _ => "str" | .list _ => "list" | .tuple _ => "tuple" | .dict _ => "dict"
theorem ty_of {K' : PySem.W.Frag} {H : Hp} {v : V} {d : PyData} (h : D W H v d) : TyX K' H v (.type (tyD d)) := by
  cases h with
  | non => exact .base .non
  | bl b => exact .base (.bl b)
  | int i => exact .base (.int i)
  | str x => exact .base (.str x)
  | lst _ h _ => exact .base (.lst h)
  | tup _ h _ => exact .base (.tup h)
/-- isinstance(x, T): te2 the class by its name -/
theorem e_isi {K' : PySem.W.Frag} {n : String} {d : PyData} {b : Bool} (h : E K T te G (· = d)) (hb : kitB (tyD d) n = some b) : E K T (tCB (rIsi K') (tCons te (tCons (tC (.ty n)) tNil))) G (· = .bool b) := fun W σ H s j Q q => h W σ H s j _ fun x e H1 e1 j1 dx px => by
  subst px
  exact ⟨x, .ty n, _, _, b, rfl, .ty n, ty_of dx, kit_ty hb, q _ _ H1 e1 j1 (.bl b) rfl⟩
/-- isinstance(x, (S, T)) -/
theorem e_isi2 {K' : PySem.W.Frag} {n m : String} {d : PyData} {b c : Bool} (h : E K T te G (· = d)) (hb : kitB (tyD d) n = some b) (hc : kitB (tyD d) m = some c) :
    E K T (tCB (rIsiT K') (tCons te (tCons (tTup (tCons (tC (.ty n)) (tCons (tC (.ty m)) tNil))) tNil))) G (· = .bool (b || c)) := fun W σ H s j Q q => h W σ H s j _ fun x e H1 e1 j1 dx px => by
  subst px
  refine ⟨(by show 2 ≤ sizeLine; decide), fun p hp => ?_⟩
  refine ⟨x, p, [.ty n, .ty m], _, [.type n, .type m], b || c, rfl, upd_same, .cons (.ty n) (.cons (.ty m) .nil), ty_of (dx.mono (.new hp)), ?_, q _ _ _ (e1.trans (.new hp)) (j_new j1 hp) (.bl _) rfl⟩
  refine kitAny_cons (kit_ty hb) (fun e => ?_) (fun e => by rw [e]; rfl)
  refine kitAny_cons (kit_ty hc) (fun e2 => ?_) (fun e2 => by rw [e, e2]; rfl)
  rw [e, e2]
  exact kitAny_nil
/-! ### statements -/
structure EndG where
  nx : Ctx → Prop := fun _ => False
  rt : PyData → Prop := fun _ => False
  rl : List PyData → Prop := fun _ => False
  bk : Ctx → Prop := fun _ => False
  ct : Ctx → Prop := fun _ => False
/-- what is wanted of the slots is met by what is wanted of their data -/
structure Ok (W : Wd K T) (D' : Ends) (F : EndG) (H : Hp) : Prop where
  nx : ∀ σ' H' G', Ex W H H' → W.J H' → Sl W H' σ' G' → F.nx G' → D'.nx σ' H'
  rt : ∀ v d H', Ex W H H' → W.J H' → D W H' v d → F.rt d → D'.rt v H'
  rl : ∀ p xs ds H', Fr W H p H' → W.J H' → ¬ W.X p → H' p = some (.lst xs) → DAll W H' xs ds → F.rl ds → D'.rt (.ref p) H'
  bk : ∀ σ' H' G', Ex W H H' → W.J H' → Sl W H' σ' G' → F.bk G' → D'.bk σ' H'
  ct : ∀ σ' H' G', Ex W H H' → W.J H' → Sl W H' σ' G' → F.ct G' → D'.ct σ' H'
theorem Ok.mono {D' : Ends} {F : EndG} {H H' : Hp} (h : Ok W D' F H) (e : Ex W H H') : Ok W D' F H' := ⟨fun σ H2 G e2 => h.nx σ H2 G (e.trans e2), fun v d H2 e2 => h.rt v d H2 (e.trans e2), fun p xs ds H2 f => h.rl p xs ds H2 (f.pre e), fun σ H2 G e2 => h.bk σ H2 G (e.trans e2), fun σ H2 G e2 => h.ct σ H2 G (e.trans e2)⟩
/-- the statement, from slots of which G tells, comes to F -/
def S (K : PySem.W.Frag) (T : List (Addr × Str)) (t : TS) (G : Ctx) (F : EndG) : Prop := ∀ (W : Wd K T) (D' : Ends) (σ : L2.St) (H : Hp), Sl W H σ G → W.J H → Ok W D' F H → t D' σ H
variable {t u : TS} {F : EndG}
theorem s_next (h : F.nx G) : S K T tNext G F := fun W D' σ H s j k => k.nx σ H G (.refl H) j s h
theorem s_seq (h : S K T t G { F with nx := fun G' => S K T u G' F }) : S K T (tSeq t u) G F := fun W D' σ H s j k => h W { D' with nx := u D' } σ H s j ⟨fun σ' H' G' e j' s' f => f W D' σ' H' s' j' (k.mono e), k.rt, k.rl, k.bk, k.ct⟩
theorem s_asgP {i : Nat} {P : PyData → Prop} (h : E K T te G P) (k : ∀ d, P d → F.nx (G.set i (some (.dat d)))) : S K T (tAsg te (gName i)) G F := fun W D' σ H s j ok => h W σ H s j _ fun v d H1 e1 j1 dv p => ok.nx _ H1 _ e1 j1 ((s.mono e1).set (.dat dv)) (k d p)
theorem s_asg {i : Nat} {d : PyData} (h : E K T te G (· = d)) (k : F.nx (G.set i (some (.dat d)))) : S K T (tAsg te (gName i)) G F := s_asgP h fun d' e => by rw [e]; exact k
theorem s_asgTg {g : TG} {vs : List Nat} {d : PyData} (h : E K T te G (· = d)) (tg : Tg K T g vs d G G') (k : F.nx G') : S K T (tAsg te g) G F := fun W D' σ H s j ok => h W σ H s j _ fun v d H1 e1 j1 dv p => by
  subst p
  exact tg W σ H1 v (s.mono e1) dv _ fun σ' s' _ _ => ok.nx _ H1 _ e1 j1 s' k
theorem s_asgTgP {g : TG} {vs : List Nat} {P : PyData → Prop} (h : E K T te G P) (tg : ∀ d, P d → ∃ G', Tg K T g vs d G G' ∧ F.nx G') : S K T (tAsg te g) G F := fun W D' σ H s j ok => h W σ H s j _ fun v d H1 e1 j1 dv p => by
  obtain ⟨G', tg, k⟩ := tg d p
  exact tg W σ H1 v (s.mono e1) dv _ fun σ' s' _ _ => ok.nx _ H1 _ e1 j1 s' k
/-- a, b = e1, e2 -/
theorem s_parP {i i2 : Nat} {tr : TA} {R : List Ob → Prop} (h : EA K T tr G R) (k : ∀ os, R os → ∃ d e, os = [.dat d, .dat e] ∧ F.nx ((G.set i (some (.dat d))).set i2 (some (.dat e)))) : S K T (tPar i i2 tr) G F := fun W D' σ H s j ok => h W σ H s j _ fun vs os H1 e1 j1 dv p => by
  obtain ⟨d, e, rfl, k⟩ := k os p
  have a := all_of (ds := [d, e]) dv
  cases a with
  | cons a b =>
    cases b with
    | cons b c =>
      cases c
      exact ⟨_, _, rfl, ok.nx _ H1 _ e1 j1 (((s.mono e1).set (.dat a)).set (.dat b)) k⟩
theorem s_retP {P : PyData → Prop} (h : E K T te G P) (k : ∀ d, P d → F.rt d) : S K T (tRet te) G F := fun W D' σ H s j ok => h W σ H s j _ fun v d H1 e1 j1 dv p => ok.rt v d H1 e1 j1 dv (k d p)
theorem s_ret {d : PyData} (h : E K T te G (· = d)) (k : F.rt d) : S K T (tRet te) G F := s_retP h fun d' e => by rw [e]; exact k
theorem s_retL {P : List PyData → Prop} (h : EL K T te G P) (k : ∀ d, P d → F.rl d) : S K T (tRet te) G F := fun W D' σ H s j ok => h W σ H s j _ fun p xs ds H1 f1 j1 n h1 al z => ok.rl p xs ds H1 f1 j1 n h1 al (k ds z)
theorem s_if {b : Bool} (h : ET K T tt G (· = b)) (h1 : b = true → S K T t G F) (h2 : b = false → S K T u G F) : S K T (tIfS tt t u) G F := fun W D' σ H s j ok => h W σ H s j _ fun c H1 e1 j1 p => by
  subst p
  cases c with
  | true => exact iteT (h1 rfl W D' σ H1 (s.mono e1) j1 (ok.mono e1))
  | false => exact iteF (h2 rfl W D' σ H1 (s.mono e1) j1 (ok.mono e1))
theorem s_drop {P : PyData → Prop} (h : E K T te G P) (k : F.nx G) : S K T (tDrop te) G F := fun W D' σ H s j ok => h W σ H s j _ fun v d H1 e1 j1 dv p => ok.nx _ H1 _ e1 j1 (s.mono e1) k
theorem s_for {wi : TI} {g : TG} {vs : List Nat} {n : Nat} {yd : Nat → PyData → Prop} (I : Nat → Ctx → Prop) (hi : Iw K T wi G n yd) (h0 : I 0 G)
    (hs : ∀ i d G', i < n → yd i d → I i G' → ∃ G2, Tg K T g vs d G' G2 ∧ S K T t G2 { F with nx := I (i + 1), ct := I (i + 1), bk := F.nx }) (hd : ∀ G', I n G' → F.nx G') : S K T (tFor wi g t) G F := fun W D' σ H s j ok => hi W σ H s j _ fun J' H1 Gd Y e1 j1 w hG hY => by
  refine for_it w (fun i σ' H' => ∃ G', Ex W H1 H' ∧ W.J H' ∧ Sl W H' σ' G' ∧ I i G') ⟨G, .refl _, j1, s.mono e1, h0⟩ (fun i σ' H' _ ⟨G', e, _⟩ => hG W H' (.refl _) e) (fun i x σ' H' H2 hin ⟨G', e, j2, s2, hI⟩ y => ?_) fun σ' H' ⟨G', e, j2, s2, hI⟩ => ok.nx _ _ _ (e1.trans e) j2 s2 (hd G' hI)
  obtain ⟨e3, j3, d, dx, yx⟩ := hY W i H' x H2 (.refl _) hin e j2 y
  obtain ⟨G2, tg, hb⟩ := hs i d G' hin yx hI
  refine tg W σ' H2 x (s2.mono e3) dx _ fun σ3 s3 _ _ => hb W _ σ3 H2 s3 j3 ?_
  have ee := e1.trans (e.trans e3)
  exact ⟨fun σ4 H4 G4 e4 j4 s4 f => ⟨G4, (e.trans e3).trans e4, j4, s4, f⟩, fun v d H4 e4 => ok.rt v d H4 (ee.trans e4), fun p xs ds H4 f => ok.rl p xs ds H4 (f.pre ee), fun σ4 H4 G4 e4 j4 s4 f => ok.nx σ4 H4 G4 (ee.trans e4) j4 s4 f, fun σ4 H4 G4 e4 j4 s4 f => ⟨G4, (e.trans e3).trans e4, j4, s4, f⟩⟩
theorem s_break (h : F.bk G) : S K T tBreak G F := fun W D' σ H s j k => k.bk σ H G (.refl H) j s h
theorem s_weak {G2 : Ctx} (h : S K T t G2 F) (hl : G2.length = G.length) (w : ∀ (i : Nat) (o : Ob), G2[i]? = some (some o) → G[i]? = some (some o)) : S K T t G F := fun W D' σ H s j k => h W D' σ H (s.weak hl w) j k
/-! ### defs -/
/-- a def's promise, by data: what must hold of the arguments, what holds of the answer -/
def spA (K : PySem.W.Frag) (T : List (Addr × Str)) (pre : List Ob → Prop) (post : List Ob → PyData → Prop) : Sp := fun vs H Q _ => ∃ (W : Wd K T) (os : List Ob), W.J H ∧ Paired (OD W H) vs os ∧ pre os ∧ ∀ v d H', Ex W H H' → W.J H' → D W H' v d → post os d → Q v H'
/-- the same, the answer a new list -/
def spL (K : PySem.W.Frag) (T : List (Addr × Str)) (pre : List Ob → Prop) (post : List Ob → List PyData → Prop) : Sp := fun vs H Q _ => ∃ (W : Wd K T) (os : List Ob), W.J H ∧ Paired (OD W H) vs os ∧ pre os ∧
  ∀ p xs ds H', Fr W H p H' → W.J H' → ¬ W.X p → H' p = some (.lst xs) → DAll W H' xs ds → post os ds → Q (.ref p) H'
theorem e_callO {dvs : List V} {Ex' : XK} {tr : TA} {R : List Ob → Prop} {pre : List Ob → Prop} {post : List Ob → PyData → Prop} {P : PyData → Prop} (h : EA K T tr G R) (hp : ∀ os, R os → pre os ∧ ∀ d, post os d → P d) : E K T (tCall (spA K T pre post) [] Ex' tr) G P := fun W σ H s j Q q => h W σ H s j _ fun vs os H1 e1 j1 dv p => by
  obtain ⟨h1, h2⟩ := hp os p
  exact ⟨W, os, j1, by rw [List.append_nil]; exact dv, h1, fun v d H2 e2 j2 dv' z => q v d H2 (e1.trans e2) j2 dv' (h2 d z)⟩
theorem e_call {Ex' : XK} {tr : TA} {os : List Ob} {pre : List Ob → Prop} {post : List Ob → PyData → Prop} {P : PyData → Prop} (h : EA K T tr G (· = os)) (hp : pre os) (hk : ∀ d, post os d → P d) : E K T (tCall (spA K T pre post) [] Ex' tr) G P :=
  e_callO (dvs := []) h fun os' e => by rw [e]; exact ⟨hp, hk⟩
theorem el_call {Ex' : XK} {tr : TA} {os : List Ob} {pre : List Ob → Prop} {post : List Ob → List PyData → Prop} {P : List PyData → Prop} (h : EA K T tr G (· = os)) (hp : pre os) (hk : ∀ d, post os d → P d) : EL K T (tCall (spL K T pre post) [] Ex' tr) G P := fun W σ H s j Q q => h W σ H s j _ fun vs os' H1 e1 j1 dv p => by
  subst p
  exact ⟨W, _, j1, by rw [List.append_nil]; exact dv, hp, fun p xs ds H2 f2 j2 n h2 al z => q p xs ds H2 (f2.pre e1) j2 n h2 al (hk ds z)⟩
def startG (N : List Str) (os : List Ob) : Ctx := os.map some ++ List.replicate (N.length - os.length) none
theorem start_sl {N : List Str} {H : Hp} {vs : List V} {os : List Ob} (h : Paired (OD W H) vs os) : Sl W H (L2.start N vs) (startG N os) := by
  have hl := Paired.length h
  refine ⟨by unfold L2.start startG; simp [hl], fun i o e => ?_⟩
  have key : ∀ {vs : List V} {os : List Ob} {i : Nat} {o : Ob}, Paired (OD W H) vs os → os[i]? = some o → ∃ v, vs[i]? = some v ∧ OD W H v o := by
    intro vs os i o h
    induction h generalizing i with
    | nil => intro e; simp at e
    | cons a _ ih =>
      intro e
      cases i with
      | zero => simp at e; subst e; exact ⟨_, rfl, a⟩
      | succ i =>
        obtain ⟨v, h1, h2⟩ := ih (i := i) (by simpa using e)
        exact ⟨v, by simpa using h1, h2⟩
  unfold startG at e
  by_cases hi : i < os.length
  · rw [List.getElem?_append_left (by simpa using hi), List.getElem?_map] at e
    cases q : os[i]? with
    | none => rw [q] at e; cases e
    | some o' =>
      rw [q] at e
      cases e
      obtain ⟨v, h1, h2⟩ := key h q
      refine ⟨v, ?_, h2⟩
      unfold L2.start
      rw [List.getElem?_append_left (by simpa [hl] using hi), List.getElem?_map, h1]
      rfl
  · rw [List.getElem?_append_right (by simpa using Nat.le_of_not_lt hi), List.getElem?_replicate] at e
    split at e <;> cases e
section
variable {P : Program} {w : World} {mg : Str → Option Value} {base : Heap}
/-- THE RULE for a def: its body as a term, and its reading by data -/
theorem ok_def {x qual : Str} {st : Stmt} {f : Addr} {fd : FuncData} {N ps : List Str} {k : Nat} {pre : List Ob → Prop} {post : List Ob → PyData → Prop} (Fn : Fun K x qual st f fd) (Sc : FnScope N ps (defScope st)) (hl : ∀ os, pre os → os.length = ps.length)
    (hbody : ∀ (cdv : Value) (A : Around) (outer : List Env) (s : Shared) (H : Hp) (E' : XK), Room k (A.deeper (envOfC qual (defScope st) s.heap.objs.size f cdv)) →
      ∃ t, PSs (cxOf CX0 P w K mg base N qual (defScope st) f cdv A outer s H E').nox (defBody st) t ∧ ∀ os, pre os → S K T t (startG N os) { nx := fun _ => post os .none, rt := post os }) : FnOk P w K mg base CX0 (k + 1) f fd ps (spA K T pre post) := by
  refine Fn.ok Sc (fun vs H Q E' ⟨W, os, j, dv, hp, _⟩ => (Paired.length dv).trans (hl os hp)) fun cdv A outer s H vs Q E' hr ⟨W, os, j, dv, hp, q⟩ => ?_
  obtain ⟨t, ht, hs⟩ := hbody cdv A outer s H E' hr
  exact ⟨t, ht, hs os hp W _ _ H (start_sl dv) j ⟨fun σ' H' G' e j' _ f => q .non .none H' e j' .non f, fun v d H' e j' dv' f => q v d H' e j' dv' f, fun _ _ _ _ _ _ _ _ _ f => f.elim, fun _ _ _ _ _ _ f => f.elim, fun _ _ _ _ _ _ f => f.elim⟩⟩
/-- .. whose answer is a new list -/
theorem ok_defL {x qual : Str} {st : Stmt} {f : Addr} {fd : FuncData} {N ps : List Str} {k : Nat} {pre : List Ob → Prop} {post : List Ob → List PyData → Prop} (Fn : Fun K x qual st f fd) (Sc : FnScope N ps (defScope st)) (hl : ∀ os, pre os → os.length = ps.length)
    (hbody : ∀ (cdv : Value) (A : Around) (outer : List Env) (s : Shared) (H : Hp) (E' : XK), Room k (A.deeper (envOfC qual (defScope st) s.heap.objs.size f cdv)) →
      ∃ t, PSs (cxOf CX0 P w K mg base N qual (defScope st) f cdv A outer s H E').nox (defBody st) t ∧ ∀ os, pre os → S K T t (startG N os) { rl := post os }) : FnOk P w K mg base CX0 (k + 1) f fd ps (spL K T pre post) := by
  refine Fn.ok Sc (fun vs H Q E' ⟨W, os, j, dv, hp, _⟩ => (Paired.length dv).trans (hl os hp)) fun cdv A outer s H vs Q E' hr ⟨W, os, j, dv, hp, q⟩ => ?_
  obtain ⟨t, ht, hs⟩ := hbody cdv A outer s H E' hr
  exact ⟨t, ht, hs os hp W _ _ H (start_sl dv) j ⟨fun _ _ _ _ _ _ f => f.elim, fun _ _ _ _ _ _ f => f.elim, fun p xs ds H' f j' n h al z => q p xs ds H' f j' n h al z, fun _ _ _ _ _ _ f => f.elim, fun _ _ _ _ _ _ f => f.elim⟩⟩
end
end
end Dv
namespace Dv
open PySem PySem.Spec L2
open PyProof.Rows hiding St
section
variable {K : PySem.W.Frag} {T : List (Addr × Str)} {G : Ctx}
theorem dats_inj : ∀ {a b : List PyData}, dats a = dats b → a = b
  | [], [], _ => rfl
  | [], _ :: _, h => by cases h
  | _ :: _, [], h => by cases h
  | x :: xs, y :: ys, h => by
    have h1 := List.cons.inj h
    rw [Ob.dat.inj h1.1, dats_inj h1.2]
/-- a def that tells a function of its data -/
def spD (K : PySem.W.Frag) (T : List (Addr × Str)) (pre : List PyData → Prop) (F : List PyData → PyData) : Sp := spA K T (fun os => ∃ ds, os = dats ds ∧ pre ds) (fun os d => ∃ ds, os = dats ds ∧ d = F ds)
theorem e_callD {Ex' : XK} {tr : TA} {ds : List PyData} {pre : List PyData → Prop} {F : List PyData → PyData} (h : EA K T tr G (· = dats ds)) (hp : pre ds) : E K T (tCall (spD K T pre F) [] Ex' tr) G (· = F ds) :=
  e_call h ⟨ds, rfl, hp⟩ fun d ⟨es, e1, e2⟩ => by rw [e2, dats_inj e1]
/-- .. called by a slot that holds the def -/
theorem e_callLD {i : Nat} {f : Addr} {Ex' : XK} {tr : TA} {ds : List PyData} {pre : List PyData → Prop} {F : List PyData → PyData} (hf : G[i]? = some (some (.fn f))) (h : EA K T tr G (· = dats ds)) (hp : pre ds) : E K T (tCallL i f (spD K T pre F) [] Ex' tr) G (· = F ds) := fun W σ H s j Q q => by
  obtain ⟨v, h1, h2⟩ := s.at_ i _ hf
  cases h2 with
  | fn => exact ⟨h1, e_callD h hp W σ H s j Q q⟩
/-- .. a new list -/
def spDL (K : PySem.W.Frag) (T : List (Addr × Str)) (pre : List PyData → Prop) (F : List PyData → List PyData) : Sp := spL K T (fun os => ∃ ds, os = dats ds ∧ pre ds) (fun os d => ∃ ds, os = dats ds ∧ d = F ds)
theorem el_callD {Ex' : XK} {tr : TA} {ds : List PyData} {pre : List PyData → Prop} {F : List PyData → List PyData} (h : EA K T tr G (· = dats ds)) (hp : pre ds) : EL K T (tCall (spDL K T pre F) [] Ex' tr) G (· = F ds) :=
  el_call h ⟨ds, rfl, hp⟩ fun d ⟨es, e1, e2⟩ => by rw [e2, dats_inj e1]
variable {P : Program} {w : World} {mg : Str → Option Value} {base : Heap}
theorem ok_defD {x qual : Str} {st : Stmt} {f : Addr} {fd : FuncData} {N ps : List Str} {k : Nat} {pre : List PyData → Prop} {F : List PyData → PyData} (Fn : Fun K x qual st f fd) (Sc : FnScope N ps (defScope st)) (hl : ∀ ds, pre ds → ds.length = ps.length)
    (hbody : ∀ (cdv : Value) (A : Around) (outer : List Env) (s : Shared) (H : Hp) (E' : XK), Room k (A.deeper (envOfC qual (defScope st) s.heap.objs.size f cdv)) →
      ∃ t, PSs (cxOf CX0 P w K mg base N qual (defScope st) f cdv A outer s H E').nox (defBody st) t ∧ ∀ ds, pre ds → S K T t (startG N (dats ds)) { nx := fun _ => F ds = .none, rt := (· = F ds) }) : FnOk P w K mg base CX0 (k + 1) f fd ps (spD K T pre F) := by
  refine ok_def Fn Sc (fun os ⟨ds, e, hp⟩ => by rw [e, dats, List.length_map]; exact hl ds hp) fun cdv A outer s H E' hr => ?_
  obtain ⟨t, ht, hs⟩ := hbody cdv A outer s H E' hr
  refine ⟨t, ht, fun os ⟨ds, e, hp⟩ => ?_⟩
  subst e
  intro W D' σ H s j ok
  exact hs ds hp W D' σ H s j ⟨fun σ' H' G' e j' s' f => ok.nx σ' H' G' e j' s' ⟨ds, rfl, f.symm⟩, fun v d H' e j' dv f => ok.rt v d H' e j' dv ⟨ds, rfl, f⟩, fun _ _ _ _ _ _ _ _ _ f => f.elim, fun _ _ _ _ _ _ f => f.elim, fun _ _ _ _ _ _ f => f.elim⟩
theorem ok_defDL {x qual : Str} {st : Stmt} {f : Addr} {fd : FuncData} {N ps : List Str} {k : Nat} {pre : List PyData → Prop} {F : List PyData → List PyData} (Fn : Fun K x qual st f fd) (Sc : FnScope N ps (defScope st)) (hl : ∀ ds, pre ds → ds.length = ps.length)
    (hbody : ∀ (cdv : Value) (A : Around) (outer : List Env) (s : Shared) (H : Hp) (E' : XK), Room k (A.deeper (envOfC qual (defScope st) s.heap.objs.size f cdv)) →
      ∃ t, PSs (cxOf CX0 P w K mg base N qual (defScope st) f cdv A outer s H E').nox (defBody st) t ∧ ∀ ds, pre ds → S K T t (startG N (dats ds)) { rl := (· = F ds) }) : FnOk P w K mg base CX0 (k + 1) f fd ps (spDL K T pre F) := by
  refine ok_defL Fn Sc (fun os ⟨ds, e, hp⟩ => by rw [e, dats, List.length_map]; exact hl ds hp) fun cdv A outer s H E' hr => ?_
  obtain ⟨t, ht, hs⟩ := hbody cdv A outer s H E' hr
  refine ⟨t, ht, fun os ⟨ds, e, hp⟩ => ?_⟩
  subst e
  intro W D' σ H s j ok
  exact hs ds hp W D' σ H s j ⟨fun _ _ _ _ _ _ f => f.elim, fun _ _ _ _ _ _ f => f.elim, fun p xs ds' H' f j' n h al z => ok.rl p xs ds' H' f j' n h al ⟨ds, rfl, z⟩, fun _ _ _ _ _ _ f => f.elim, fun _ _ _ _ _ _ f => f.elim⟩
end
section
variable {K : PySem.W.Frag} {T : List (Addr × Str)} {G : Ctx} {te : TE}
def kInt : PyData → Bool | .int _ => true | .bool _ => true | _ => false
def kBool : PyData → Bool | .bool _ => true | _ => false
def kTup : PyData → Bool | .tuple _ => true | _ => false
def kLst : PyData → Bool | .list _ => true | _ => false
def kStr : PyData → Bool | .str _ => true | _ => false
theorem kb_int : ∀ d : PyData, kitB (tyD d) "int" = some (kInt d)
  | .none => (by decide +kernel : kitB "NoneType" "int" = some false)
  | .bool _ => (by decide +kernel : kitB "bool" "int" = some true)
  | .int _ => (by decide +kernel : kitB "int" "int" = some true)
  | .str _ => (by decide +kernel : kitB "str" "int" = some false)
  | .list _ => (by decide +kernel : kitB "list" "int" = some false)
  | .tuple _ => (by decide +kernel : kitB "tuple" "int" = some false)
  | .dict _ => (by decide +kernel : kitB "dict" "int" = some false)
theorem kb_bool : ∀ d : PyData, kitB (tyD d) "bool" = some (kBool d)
  | .none => (by decide +kernel : kitB "NoneType" "bool" = some false)
  | .bool _ => (by decide +kernel : kitB "bool" "bool" = some true)
  | .int _ => (by decide +kernel : kitB "int" "bool" = some false)
  | .str _ => (by decide +kernel : kitB "str" "bool" = some false)
  | .list _ => (by decide +kernel : kitB "list" "bool" = some false)
  | .tuple _ => (by decide +kernel : kitB "tuple" "bool" = some false)
  | .dict _ => (by decide +kernel : kitB "dict" "bool" = some false)
theorem kb_tup : ∀ d : PyData, kitB (tyD d) "tuple" = some (kTup d)
  | .none => (by decide +kernel : kitB "NoneType" "tuple" = some false)
  | .bool _ => (by decide +kernel : kitB "bool" "tuple" = some false)
  | .int _ => (by decide +kernel : kitB "int" "tuple" = some false)
  | .str _ => (by decide +kernel : kitB "str" "tuple" = some false)
  | .list _ => (by decide +kernel : kitB "list" "tuple" = some false)
  | .tuple _ => (by decide +kernel : kitB "tuple" "tuple" = some true)
  | .dict _ => (by decide +kernel : kitB "dict" "tuple" = some false)
theorem kb_lst : ∀ d : PyData, kitB (tyD d) "list" = some (kLst d)
  | .none => (by decide +kernel : kitB "NoneType" "list" = some false)
  | .bool _ => (by decide +kernel : kitB "bool" "list" = some false)
  | .int _ => (by decide +kernel : kitB "int" "list" = some false)
  | .str _ => (by decide +kernel : kitB "str" "list" = some false)
  | .list _ => (by decide +kernel : kitB "list" "list" = some true)
  | .tuple _ => (by decide +kernel : kitB "tuple" "list" = some false)
  | .dict _ => (by decide +kernel : kitB "dict" "list" = some false)
theorem kb_str : ∀ d : PyData, kitB (tyD d) "str" = some (kStr d)
  | .none => (by decide +kernel : kitB "NoneType" "str" = some false)
  | .bool _ => (by decide +kernel : kitB "bool" "str" = some false)
  | .int _ => (by decide +kernel : kitB "int" "str" = some false)
  | .str _ => (by decide +kernel : kitB "str" "str" = some true)
  | .list _ => (by decide +kernel : kitB "list" "str" = some false)
  | .tuple _ => (by decide +kernel : kitB "tuple" "str" = some false)
  | .dict _ => (by decide +kernel : kitB "dict" "str" = some false)
theorem bt_bool : bootBuiltins "bool" = some (.type "bool") := by decide +kernel
theorem bt_isinstance : bootBuiltins "isinstance" = some (.builtin "isinstance") := by decide +kernel
theorem bt_any : bootBuiltins "any" = some (.builtin "any") := by decide +kernel
theorem bt_sum : bootBuiltins "sum" = some (.builtin "sum") := by decide +kernel
theorem bt_tuple : bootBuiltins "tuple" = some (.type "tuple") := by decide +kernel
theorem bt_list : bootBuiltins "list" = some (.type "list") := by decide +kernel
theorem bt_int : bootBuiltins "int" = some (.type "int") := by decide +kernel
theorem bt_str : bootBuiltins "str" = some (.type "str") := by decide +kernel
theorem bt_len : bootBuiltins "len" = some (.builtin "len") := by decide +kernel
theorem bt_sorted : bootBuiltins "sorted" = some (.builtin "sorted") := by decide +kernel
end
end Dv

/-! ### enumerate of a tuple -/
namespace PySem
set_option maxHeartbeats 1000000 in
theorem dv_meets_enum {v : Value} {o : Obj} {H : Heap → Prop} (B : Begins v o H) :
    Meets (Builtin.«enumerate.__new__» ⟨[.type "enumerate", v], []⟩) (fun _ R s => H s.heap ∧
      R (.ok (.ret (.ref (s.heap.push o).objs.size))) { s with heap := (s.heap.push o).push { cls := .type "enumerate", data := .fields #[.none, .bool false, .ref s.heap.objs.size, rawInt 0, .none, .none] } }) :=
  .of_wp fun prog w A R s h => by
    obtain ⟨hp, g, d, tk, os⟩ := s; obtain ⟨h1, h⟩ := h
    have hsub := sub_enumerate
    have q1 : ∀ {A' : Around} {E : Value → Shared → Prop} {Q : Value → Shared → Prop}, Q (.ref hp.objs.size) ⟨hp.push o, g, d, tk, os⟩ → wpAny (model prog w) A' (pyIter v) Q E ⟨hp, g, d, tk, os⟩ :=
      fun q => B.iter prog w _ _ ⟨hp, g, d, tk, os⟩ _ h1 q
    wp_walk using q1
    refine wpAny_stack_any fun st => wpAny_pure ?_
    split
    · rename_i c _ _ _ _ _
      cases (c == Value.type "enumerate")
      · wp_walk using q1
        exact ⟨_, rfl, h⟩
      · wp_walk using q1
        exact ⟨_, rfl, h⟩
    · wp_walk using q1
      exact ⟨_, rfl, h⟩
section
variable {prog : Program} {w : World} {A : Around} {E : Value → Shared → Prop} {s : Shared}
theorem dv_enum_begins {v : Value} {o : Obj} {H : Heap → Prop} {Q : Value → Shared → Prop} (B : Begins v o H) (h1 : H s.heap)
    (h : ∀ h', IsEnum h' (s.heap.objs.size + 1) s.heap.objs.size 0 .none → h'.get? s.heap.objs.size = some o → h'.objs.size = s.heap.objs.size + 2 →
      (∀ b o, s.heap.get? b = some o → h'.get? b = some o) → Q (.ref (s.heap.objs.size + 1)) { s with heap := h' }) :
    wpAny (model prog w) A (call (.type "enumerate") [v]) Q E s := by
  refine callType_new F.called_enumerate (by decide) (F.typeCall_enumerate_1 _) (F.newCall_enumerate_1 _) (fun obj => F.args_object_init_2 obj _) F.entry_enumerate_new
    (dv_meets_enum B) ⟨h1, ?_⟩
  have hz : (s.heap.push o).objs.size = s.heap.objs.size + 1 := Heap.size_push ..
  show _ ∧ _
  rw [hz]
  have he : IsEnum ((s.heap.push o).push { cls := .type "enumerate", data := .fields #[.none, .bool false, .ref s.heap.objs.size, rawInt 0, .none, .none] }) (s.heap.objs.size + 1) s.heap.objs.size 0 .none := by
    have := Heap.get?_push_size (s.heap.push o) (o := { cls := .type "enumerate", data := .fields #[.none, .bool false, .ref s.heap.objs.size, rawInt 0, .none, .none] }) rfl
    rw [hz] at this; exact this
  refine ⟨⟨_, he, rfl⟩, h _ he (Heap.get?_push_of_some _ (Heap.get?_push_size _ B.free)) (by rw [Heap.size_push, hz]) fun b o x => Heap.get?_push_of_some _ (Heap.get?_push_of_some _ x)⟩
end
end PySem
namespace Dv
open PySem PySem.Spec L2
open PyProof.Rows hiding St
/-- the tuple at a, each item in a new pair -/
def IteT (K : PySem.W.Frag) (a : Addr) : It :=
  ⟨fun i H => ∃ (xs : List V) (x : V), SqT K H a xs ∧ xs[i]? = some x, fun i H v H' => ∃ T x, v = .ref T ∧ H T = none ∧ H' = upd H T (.tup [.int (i : Nat), x]) ∧ ∀ xs, SqT K H a xs → xs[i]? = some x, fun i H => ∃ xs : List V, SqT K H a xs ∧ xs.length = i⟩
theorem turn_enumT {P : Program} {w : World} {K : PySem.W.Frag} {elts : List Expr} {kk : Nat} {tpos : Pos} (a e it : Addr) (hae : a ≠ e) (hai : a ≠ it) :
    Turn P w K (.Tuple elts kk tpos) (IteT K a) [e, it] e (fun i h => (∃ old, IsEnum h e it ((i : Nat) : Int) old) ∧ h.IsTupleIter it a i ∧ e ≠ it) where
  mem := by simp
  obj := fun i h st b hb => by
    obtain ⟨⟨old, he⟩, ⟨o, ho, hc, hd⟩, _⟩ := st
    have e' : b = e ∨ b = it := by simpa using hb
    rcases e' with z | z
    · rw [z]; exact ⟨_, he, fun v q => nomatch q⟩
    · rw [z]; exact ⟨o, ho, fun v q => by rw [hd] at q; cases q⟩
  keep := fun i h h' st k => let ⟨⟨old, he⟩, hi, hne⟩ := st; ⟨⟨old, k e (by simp) _ he⟩, hi.at fun o q => k it (by simp) o q, hne⟩
  item := by
    intro X hP hw hK hc i pins s σ H E I hf st hg
    subst hP hw hK
    obtain ⟨⟨old, he⟩, hit, hne⟩ := st
    obtain ⟨xs, x, hq, hx⟩ := hg
    obtain ⟨its, rv, p, hz⟩ := I.tuple hq
    obtain ⟨u, hu, ru⟩ := rv.get hx
    have hel : e < s.heap.objs.size := Heap.lt_size he
    have hil : it < s.heap.objs.size := by obtain ⟨_, q, _⟩ := hit; exact Heap.lt_size q
    have hlt : i < its.toArray.size := by
      have := (List.getElem?_eq_some_iff.mp hu).1
      simpa using this
    refine wpAny_pyNext_enum_itemD (Draws.tuple (prog := X.prog) (w := X.w) (A := X.A.in1) (I.ok.hd hc) it a hai its.toArray) he ⟨hit, p⟩ hlt hne (by simp; exact ⟨hne, Ne.symm hae⟩) fun x' h' tk hP ho hst hT hsz hk => ?_
    have hx' : x' = u := by
      have q : its.toArray[i]? = some u := by simpa using hu
      rw [q] at hP
      exact (Option.some.inj hP).symm
    subst hx'
    refine ⟨_, rfl, wpAny_letOwnedTupleGo_enum (s := { s with heap := h', toks := tk + 1 }) ho fun h'' he' sb => ?_⟩
    have hT2 : h''.get? s.heap.objs.size = some { cls := .type "tuple", data := .seq #[.int i tk, x'] } := (sb.2 _ (Nat.ne_of_gt hel)).trans hT
    have new : ObjOk X.prog X.w (upd H s.heap.objs.size (.tup [.int (i : Nat), x])) h'' s.heap.objs.size (.tup [.int (i : Nat), x]) :=
      ⟨by show 2 ≤ sizeLine; decide, [.int i tk, x'], .cons ⟨_, rfl⟩ (.cons ru .nil), ⟨_, hT2, rfl, _, rfl⟩⟩
    have I1 : Inv X pins σ (upd H s.heap.objs.size (.tup [.int (i : Nat), x])) { s with heap := h'', toks := tk + 1 } :=
      I.turnedNew (ch := [e, it]) (fun b ob hb q => (sb.2 b (fun z => hb (by simp [z]))).trans (hk b ob (fun z => hb (by simp [z])) (fun z => hb (by simp [z])) q)) hf (Nat.le_refl _) new
    refine ⟨.ref s.heap.objs.size, _, I1, rfl, ⟨_, x, rfl, I.hok.fresh (Nat.le_refl _), rfl, fun ys hy => by rw [I.tuple_inj hy hq]; exact hx⟩, ⟨⟨x', ?_⟩, hst.1.at fun o q => (sb.2 it (Ne.symm hne)).trans q, hne⟩, fun b hb => ?_⟩
    · have e1 : ((i + 1 : Nat) : Int) = (i : Int) + 1 := by omega
      rw [e1]; exact he'
    · have hb' : b < s.heap.objs.size := by
        have e' : b = e ∨ b = it := by simpa using hb
        rcases e' with z | z
        · rw [z]; exact hel
        · rw [z]; exact hil
      rw [upd_ne (Nat.ne_of_lt hb')]
      exact (hf b hb).1
  done := by
    intro X hP hw hK hc i pins s σ H E I hf st hg
    subst hP hw hK
    obtain ⟨⟨old, he⟩, hit, hne⟩ := st
    obtain ⟨xs, hq, hx⟩ := hg
    obtain ⟨its, rv, p, hz⟩ := I.tuple hq
    obtain ⟨f0, f1, f2, f3, f4, f5⟩ := hf it (by simp)
    have hl := rv.length
    have e : its.toArray.size = i := by rw [List.size_toArray, ← hl]; exact hx
    subst e
    exact wpAny_pyNext_enum_endD (Draws.tuple (prog := X.prog) (w := X.w) (A := X.A.in1) (I.ok.hd hc) it a hai its.toArray) he ⟨hit, p⟩ fun h' eb => ⟨rfl, I.turned (t' := s.toks) (fun b o hb q => eb b o hb q) f0 f1 f3 f4 f5⟩
  self := fun A i s Q E st h => let ⟨⟨_, he⟩, _⟩ := st; wpAny_pyIter_enum he h
def iEnumT (K : PySem.W.Frag) (ta : TA) : TI := fun σ H R => ta σ H fun vs H1 => ∃ a xs, vs = [.ref a] ∧ SqT K H1 a xs ∧ R (IteT K a) H1
theorem pi_enumT {X : Cx} {e : Expr} {ta : TA} {p pos tpos : Pos} {elts : List Expr} {kk : Nat} (hg : Gl X "enumerate") (hm : X.mg "enumerate" = none) (ha : PA X [e] ta) (hs : starEach [e] X.env = [(false, eval e X.env)] := by rfl) :
    PI X (.Tuple elts kk tpos) (.Call (.Name "enumerate" p) [e] [] pos) (iEnumT X.K ta) := by
  refine ⟨fun pins s σ H R I h => ?_⟩
  refine Call_ (ld_blt I hg hm boot_enumerate (PyProof.Rows.callWith_type1 (thn (ha.run pos pins s σ H _ I h) fun us s1 ⟨vs, H1, I1, r1, q1⟩ => ?_) hs rfl))
  obtain ⟨a, xs, ex, hq, q⟩ := q1
  subst ex
  cases r1 with
  | cons r rr =>
    cases rr
    cases r
    obtain ⟨its, rv, p', hz⟩ := I1.tuple hq
    have hal : a < s1.heap.objs.size := by
      obtain ⟨o, ho, _⟩ := id p'
      exact Heap.lt_size ho
    refine dv_enum_begins (begins_tuple a its.toArray) p' fun h' he hit hsz hk => wpAny_pyIter_enum he ?_
    have I2 : Inv X pins σ H1 { s1 with heap := h' } := I1.kept (t' := s1.toks) hk
    refine ⟨s1.heap.objs.size + 1, [s1.heap.objs.size + 1, s1.heap.objs.size], _, _, H1, rfl, I2, turn_enumT a (s1.heap.objs.size + 1) s1.heap.objs.size (Nat.ne_of_lt (Nat.lt_succ_of_lt hal)) (Nat.ne_of_lt hal), ⟨⟨.none, he⟩, ⟨_, hit, rfl, rfl⟩, Nat.succ_ne_self _⟩, fun b hb => ?_, q⟩
    have e' : b = s1.heap.objs.size + 1 ∨ b = s1.heap.objs.size := by simpa using hb
    have hle : s1.heap.objs.size ≤ b := by
      rcases e' with z | z
      · rw [z]; exact Nat.le_add_right _ _
      · rw [z]; exact Nat.le_refl _
    exact I1.fpOk hle (I1.hok.fresh hle)
theorem walk_enumT {K : PySem.W.Frag} {a : Addr} {xs : List V} : Walk (IteT K a) xs.length (fun H => SqT K H a xs) (YPair (fun i => some (.int (i : Nat))) (fun i => xs[i]?)) := by
  refine ⟨fun i _ hi q => ⟨xs, xs[i], q, by simp [hi]⟩, fun _ q => ⟨xs, q, rfl⟩, fun i H v H' _ q y => ?_⟩
  obtain ⟨T, x, h1, h2, h3, h4⟩ := y
  exact ⟨T, .int (i : Nat), x, h1, h2, h3, rfl, h4 xs q⟩
theorem i_enumT {K K' : PySem.W.Frag} {T : List (Addr × Str)} {G : Ctx} {ds : List PyData} {tr : TA} (h : EA K T tr G (· = [.dat (.tuple ds)])) : Iw K T (iEnumT K' tr) G ds.length (fun i d => ∃ x, ds[i]? = some x ∧ d = .tuple [.int (i : Nat), x]) := fun W σ H s j R r => h W σ H s j _ fun vs os H1 e1 j1 dv p => by
  subst p
  have a := all_of (ds := [.tuple ds]) dv
  cases a with
  | cons dz b =>
    cases b
    obtain ⟨a, xs, rfl, nx, ha, al⟩ := dz.tup_inv
    have hl := al.length
    refine ⟨a, xs, rfl, SqT.of ha, ?_⟩
    have w := walk_enumT (K := K') (a := a) (xs := xs)
    rw [hl] at w
    refine r (IteT K' a) H1 _ _ e1 j1 w (fun W2 H2 c e2 => ?_) fun W2 i H2 x H3 c hi e2 j2 y => ?_
    · obtain ⟨a', xs', ea, nx', ha', al'⟩ := (c _ _ dz).tup_inv
      cases ea
      rw [ha] at ha'; cases ha'
      exact SqT.of (e2.k _ _ ha (fun _ z => by cases z) nx')
    · obtain ⟨Tp, x1, x2, rfl, hT, rfl, h1, h2⟩ := y
      cases h1
      obtain ⟨a', xs', ea, nx', ha', al'⟩ := (c _ _ dz).tup_inv
      cases ea
      rw [ha] at ha'; cases ha'
      obtain ⟨d, h3, h4⟩ := al'.getV h2
      exact ⟨.new hT, j_new j2 hT, .tuple [.int (i : Nat), d], .tup (new_ne j2 hT) upd_same (.cons (.int _) (.cons ((h4.mono e2).mono (.new hT)) .nil)), d, h3, rfl⟩
end Dv

namespace Dv
open PySem PySem.Spec L2
open PyProof.Rows hiding St
section
variable {K : PySem.W.Frag} {T : List (Addr × Str)} {W W2 : Wd K T} {G : Ctx} {te : TE}
theorem flat_take {ds : List PyData} {i : Nat} {d : PyData} (h : ds[i]? = some d) (f : PyData → List PyData) : (ds.take (i + 1)).flatMap f = (ds.take i).flatMap f ++ f d := by
  rw [List.take_add_one, h, List.flatMap_append]
  congr 1
  show [d].flatMap f = f d
  simp
theorem flat_le {ds : List PyData} (f : PyData → List PyData) (i : Nat) : ((ds.take i).flatMap f).length ≤ (ds.flatMap f).length := by
  have e : ds.flatMap f = (ds.take i).flatMap f ++ (ds.drop i).flatMap f := by rw [← List.flatMap_append, List.take_append_drop]
  rw [e, List.length_append]
  exact Nat.le_add_right _ _
/-- two fors, no tests -/
theorem el_lc2D {wi wi1 : TI} {g g1 : TG} {vs vs1 : List Nat} {ds : List PyData} (es : PyData → List PyData) (v : PyData → PyData → PyData) (hi : Iwd K T wi G ds)
    (hs : ∀ d ∈ ds, ∃ G', Tg K T g vs d (wipeG G vs) G' ∧ Iwd K T wi1 G' (es d) ∧ ∀ e ∈ es d, ∃ G2, Tg K T g1 vs1 e (wipeG G' vs1) G2 ∧ E K T te G2 (· = v d e))
    (hn : (ds.flatMap fun d => (es d).map (v d)).length < 100000) : EL K T (tLc2 wi g tYes wi1 g1 tYes te vs vs1) G (· = ds.flatMap fun d => (es d).map (v d)) := fun W σ H s j Q q => hi W σ H s j _ fun J' H1 Gd Y e1 j1 w hG hY Dl hD => by
  have hp : ¬ W.X Dl := new_ne j1 hD
  let Pv : Nat → Hp → Prop := fun i H' => ∃ xs, Ex W H1 H' ∧ W.J H' ∧ H' Dl = some (.lst xs) ∧ DAll (W.hide Dl hp xs) H' xs ((ds.take i).flatMap fun d => (es d).map (v d))
  refine ⟨fun i m H => m = ds.length - i ∧ i ≤ ds.length ∧ Pv i H, ⟨ds.length, by simp, Nat.zero_le _, [], .new hD, j_new j1 hD, upd_same, by simp; exact .nil⟩, ?_⟩
  rintro i m H' ⟨rfl, hin, xs, e, j2, hl, al⟩
  have gd := hG W H' (.refl _) e
  by_cases hlt : i < ds.length
  · refine .inr ⟨w.goes i H' hlt gd, Pv (i + 1), fun H2 p' => ⟨ds.length - (i + 1), by omega, rfl, hlt, p'⟩, fun x H2 y => ?_⟩
    have y := w.yields i H' x H2 hlt gd y
    have s1 : Sl (W.hide Dl hp xs) H1 σ G := (s.mono e1).to (hide_out hD) rfl
    obtain ⟨e3, j3, d, dx, yx⟩ := hY (W.hide Dl hp xs) i H' x H2 (fun v d h => h.to (hide_out hD)) hlt (ex_hide e) ⟨j2, hl⟩ y
    obtain ⟨G', tg, hi1, hs1⟩ := hs d (List.mem_of_getElem? yx)
    refine tg (W.hide Dl hp xs) (L2.wipe σ vs) H2 x ((s1.mono ((ex_hide e).trans e3)).wipe vs) dx _ fun σ' s' hl' hk => ⟨(wipe_same hl' hk).trans wipe_wipe, iteT (B := Pv (i + 1) H2) ?_⟩
    refine hi1 (W.hide Dl hp xs) σ' H2 s' j3 _ fun J1 H4 Gd1 Y1 e4 j4 w1 hG1 hY1 => ?_
    have e14 : Ex W H1 H4 := hide_ex hD (((ex_hide e).trans e3).trans e4)
    let P1 : Nat → Hp → Prop := fun k H5 => ∃ ys, Ex (W.hide Dl hp ys) H4 H5 ∧ W.J H5 ∧ H5 Dl = some (.lst ys) ∧ DAll (W.hide Dl hp ys) H5 ys (((ds.take i).flatMap fun d => (es d).map (v d)) ++ ((es d).take k).map (v d))
    refine ⟨fun k m H => m = (es d).length - k ∧ k ≤ (es d).length ∧ P1 k H, ⟨(es d).length, by simp, Nat.zero_le _, xs, .refl _, j4.1, j4.2, ?_⟩, ?_⟩
    · have := (al.mono e3).mono e4
      simpa using this
    rintro k m H5 ⟨rfl, hkn, ys, e5, j5, hl5, al5⟩
    have cp1 : Cp (W.hide Dl hp xs) (W.hide Dl hp ys) H4 := fun v d h => D.to (W := W.hide Dl hp xs) (W2 := W.hide Dl hp ys) (fun _ _ _ n => n) h
    have gd1 := hG1 (W.hide Dl hp ys) H5 cp1 e5
    by_cases hk1 : k < (es d).length
    · refine .inr ⟨w1.goes k H5 hk1 gd1, P1 (k + 1), fun H6 p' => ⟨(es d).length - (k + 1), by omega, rfl, hk1, p'⟩, fun x1 H6 y1 => ?_⟩
      have y1 := w1.yields k H5 x1 H6 hk1 gd1 y1
      obtain ⟨e6, j6, d1, dx1, yx1⟩ := hY1 (W.hide Dl hp ys) k H5 x1 H6 cp1 hk1 e5 ⟨j5, hl5⟩ y1
      obtain ⟨G2, tg1, he⟩ := hs1 d1 (List.mem_of_getElem? yx1)
      have s4 : Sl (W.hide Dl hp ys) H4 σ' G' := Sl.to (W := W.hide Dl hp xs) (W2 := W.hide Dl hp ys) (fun _ _ _ n => n) rfl (s'.mono e4)
      refine tg1 (W.hide Dl hp ys) (L2.wipe σ' vs1) H6 x1 ((s4.mono (e5.trans e6)).wipe vs1) dx1 _ fun σ3 s3 hl3 hk3 => ⟨(wipe_same hl3 hk3).trans wipe_wipe, iteT (B := P1 (k + 1) H6) ?_⟩
      refine he _ σ3 H6 s3 j6 _ fun yv dy H7 e7 j7 dyv py => ⟨ys, j7.2, ?_, ys ++ [yv], ?_, W.ju j7.1 (.inr (.inl ⟨ys, j7.2⟩)) hp, upd_same, ?_⟩
      · rw [al5.length]
        refine Nat.lt_of_le_of_lt ?_ (show 100000 < sizeLine by decide)
        have z := flat_le (ds := ds) (fun d => (es d).map (v d)) (i + 1)
        rw [flat_take yx, List.length_append, List.length_map] at z
        rw [List.length_append, List.length_map, List.length_take]
        omega
      · have e57 : Ex (W.hide Dl hp ys) H4 H7 := (e5.trans e6).trans e7
        exact ⟨fun a o ha hn' hx => (Ex.out (W := W.hide Dl hp ys) e57 (Or.inr rfl)).k a o ha hn' hx⟩
      · refine hide_all (ys := ys) (DAll.mono (Ex.out (Ex.refl _) (show (W.hide Dl hp ys).X Dl from Or.inr rfl)) ?_)
        have ez : ((es d).take (k + 1)).map (v d) = ((es d).take k).map (v d) ++ [v d d1] := by
          rw [List.take_add_one, yx1, List.map_append]
          rfl
        rw [ez, ← List.append_assoc]
        subst py
        exact ((al5.mono e6).mono e7).append (.one dyv)
    · have ek : k = (es d).length := by omega
      subst ek
      have e15 : Ex (W.hide Dl hp ys) H1 H5 := (ex_hide e14).trans e5
      refine .inl ⟨w1.stops H5 gd1, ys, hide_ex hD e15, j5, hl5, ?_⟩
      rw [flat_take yx]
      rw [List.take_length] at al5
      exact al5
  · have ei : i = ds.length := by omega
    subst ei
    rw [List.take_length] at al
    exact .inl ⟨w.stops H' gd, q Dl xs _ H' ⟨H1, e1, hD, e⟩ j2 hp hl (al.to (W2 := W) fun _ _ _ n z => n (Or.inl z)) rfl⟩
end
end Dv

/-! ### itertools.combinations of a range -/
namespace DvC
open PySem PySem.Spec
open Sem (wp)
theorem mro_c : mroOf (.type "itertools.combinations") = pure [.type "itertools.combinations", .type "object"] := by rw [mroOf_type]; kernel_rfl
theorem lookup_c_new : typeLookup (.type "itertools.combinations") "__new__" = pure (some (.builtin "itertools.combinations.__new__")) := by rw [typeLookup_type, builtinLookup_eq_fast]; kernel_rfl
theorem slot_c_init : Slot "itertools.combinations" "__init__" "object.__init__" :=
  .of (owner := "object") (n := "__init__") (by rw [typeLookup_type, builtinLookup_eq_fast]; kernel_rfl) (by decide +kernel) (by decide +kernel) (by decide +kernel)
    (by first | exact .inl (by decide +kernel) | exact .inr (by decide +kernel)) (by rw [isSubtype_type]; kernel_rfl)
theorem sub_c : isSubtype (.type "itertools.combinations") (.type "itertools.combinations") = pure true := by rw [isSubtype_type]; kernel_rfl
theorem called_c : TypeCalled "itertools.combinations" "itertools.combinations.__new__" "object.__init__" :=
  ⟨by decide +kernel, by decide +kernel, ⟨_, _, mro_c⟩, madeBy_type mro_c lookup_c_new (by decide +kernel), by decide +kernel, sub_c, slot_c_init⟩
theorem typeCall_c (a b : Value) : checkTypeCall "itertools.combinations" ⟨[a, b], []⟩ = pure () := by kernel_rfl
theorem newCall_c (a b : Value) : checkBuiltinCall "itertools.combinations.__new__" ⟨[.type "itertools.combinations", a, b], []⟩ = pure () := by kernel_rfl
theorem entry_c_new : entryFor table "itertools.combinations.__new__" = some Builtin.«itertools.combinations.__new__» := entryFor_of_tree (by kernel_rfl)
theorem plain_c_new : plainId "itertools.combinations.__new__" = true := by decide +kernel
theorem slot_c_iter : Slot "itertools.combinations" "__iter__" "itertools.combinations.__iter__" :=
  .of (owner := "itertools.combinations") (n := "__iter__") (by rw [typeLookup_type, builtinLookup_eq_fast]; kernel_rfl) (by decide +kernel) (by decide +kernel) (by decide +kernel)
    (by first | exact .inl (by decide +kernel) | exact .inr (by decide +kernel)) sub_c
theorem slot_c_next : Slot "itertools.combinations" "__next__" "itertools.combinations.__next__" :=
  .of (owner := "itertools.combinations") (n := "__next__") (by rw [typeLookup_type, builtinLookup_eq_fast]; kernel_rfl) (by decide +kernel) (by decide +kernel) (by decide +kernel)
    (by first | exact .inl (by decide +kernel) | exact .inr (by decide +kernel)) sub_c
theorem entry_c_iter : entryFor table "itertools.combinations.__iter__" = some Builtin.«dict_keyiterator.__iter__» :=
  entryFor_alias (id' := "dict_keyiterator.__iter__") (by kernel_rfl) (by first | rfl | decide +kernel | (unfold String.splitOn; simp +decide [String.splitOnAux])) (by decide +kernel) (by kernel_rfl)
theorem entry_c_next : entryFor table "itertools.combinations.__next__" = some Builtin.«itertools.combinations.__next__» := entryFor_of_tree (by kernel_rfl)
theorem args_c_iter (a : Value) : argsOk "itertools.combinations.__iter__" ⟨[a], []⟩ := by unfold argsOk; kernel_rfl
theorem args_c_next (a : Value) : argsOk "itertools.combinations.__next__" ⟨[a], []⟩ := by unfold argsOk; kernel_rfl
theorem noDict_c : typeHasDict (.type "itertools.combinations") = false := by decide +kernel
theorem args_init3 (o a b : Value) : argsOk "object.__init__" ⟨[o, a, b], []⟩ := F.args_object_init_3 o a b
end DvC

namespace DvC
open PySem PySem.Spec
open Sem (wp)
/-- a combinations object: its pool, its state, what it handed out, the places -/
abbrev cObj (pool : Addr) (st : Int) (last : Value) (idx : List Nat) : Obj := { cls := .type "itertools.combinations", data := .fields (#[.ref pool, .int st 0, last] ++ (idx.map fun (n : Nat) => rawInt n).toArray) }
def IsComb (h : Heap) (it pool : Addr) (st : Int) (last : Value) (idx : List Nat) : Prop := h.get? it = some (cObj pool st last idx)
theorem f0 {pool : Addr} {st : Int} {last : Value} {idx : List Nat} : (#[Value.ref pool, .int st 0, last] ++ (idx.map fun (n : Nat) => rawInt n).toArray)[0]? = some (.ref pool) := by simp
theorem f1 {pool : Addr} {st : Int} {last : Value} {idx : List Nat} : (#[Value.ref pool, .int st 0, last] ++ (idx.map fun (n : Nat) => rawInt n).toArray)[1]? = some (.int st 0) := by simp
theorem f2 {pool : Addr} {st : Int} {last : Value} {idx : List Nat} : (#[Value.ref pool, .int st 0, last] ++ (idx.map fun (n : Nat) => rawInt n).toArray)[2]? = some last := by simp
theorem fdrop {pool : Addr} {st : Int} {last : Value} {idx : List Nat} : ((#[Value.ref pool, .int st 0, last] ++ (idx.map fun (n : Nat) => rawInt n).toArray).toList.drop 3) = idx.map fun (n : Nat) => rawInt n := by simp
section
variable {prog : Program} {w : World} {A : Around} {E : Value → Shared → Prop} {s : Shared}
theorem cr_c (a b : Value) : Builtin.Itertools.itClassAndRest "combinations" ⟨[.type "itertools.combinations", a, b], []⟩ = pure (.type "itertools.combinations", [a, b]) := by
  unfold Builtin.Itertools.itClassAndRest
  have e : isType (.type "itertools.combinations") = pure true := by first | rfl | kernel_rfl | (unfold isType; rw [isSubtype_type]; kernel_rfl)
  have e2 : isSubtype (.type "itertools.combinations") (.type ("itertools." ++ "combinations")) = pure true := sub_c
  simp only [e, e2, pure_bind]
  rfl
theorem bn_c (a b : Value) : Builtin.Itertools.itBindNamed "combinations" ["iterable", "r"] 2 2 [a, b] [] = pure [some a, some b] := by first | rfl | kernel_rfl
theorem ss_c {k : Nat} {t : Tok} (hk : k ≤ 1000) : Builtin.Itertools.itSsizeArg (.int k t) = pure (k : Int) := by
  unfold Builtin.Itertools.itSsizeArg
  have e : asIndex (.int k t) = pure (k : Int) := by first | rfl | kernel_rfl | (unfold asIndex; rfl)
  rw [e, pure_bind]
  have q : ¬ ((decide ((k : Int) < -(2 ^ 63 : Int)) || decide ((k : Int) ≥ 2 ^ 63)) = true) := by simp; omega
  rw [if_neg q]
/-- combinations(range, k) -/
theorem code_new {r : Addr} {a b c : Int} {t u v tk0 : Tok} {n : Nat} {k : Nat} {Q₁ : Value → Shared → Prop} (hh : A.handled = none) (hr : IsRange s.heap r a b c t u v) (hsmall : Builtin.Range.small a b c = true) (hn : Builtin.Range.rangeSize a b c = n) (hlen : n ≤ 2 ^ 24) (hk : k ≤ 1000)
    (h : ∀ (h' : Heap) (tk : Nat) (acc : Array Value), (∀ b o, s.heap.get? b = some o → h'.get? b = some o) → ItemsOf (fun i v => ∃ t, v = .int (a + i * c) t) acc n →
      Q₁ (.ref (h'.objs.size + 1)) { s with heap := (h'.push { cls := .type "tuple", data := .seq acc }).push (cObj h'.objs.size (if k > n then 2 else 0) .none (List.range k)), toks := tk }) :
    codeAny (model prog w) A (.call (.builtin "itertools.combinations.__new__") ⟨[.type "itertools.combinations", .ref r, .int k tk0], []⟩) (wants Q₁ E) s := by
  refine codeAny_of_tree ?_
  show wpAny _ A.in1 (do checkBuiltinCall "itertools.combinations.__new__" ⟨[.type "itertools.combinations", .ref r, .int k tk0], []⟩; again (.builtin "itertools.combinations.__new__" ⟨[.type "itertools.combinations", .ref r, .int k tk0], []⟩)) _ _ s
  refine wpAny_bind (wpAny_of_eq (newCall_c _ _) (wpAny_pure ⟨plainId_quiet plain_c_new _, codeAny_builtin entry_c_new ?_⟩))
  rw [Around.under_plainId plain_c_new _]
  have hh1 : A.in1.handled = none := hh
  show wpAny _ _ ((Builtin.Itertools.itClassAndRest "combinations" _ >>= _) >>= _) _ _ s
  refine wpAny_bind (wpAny_bind (wpAny_of_eq (cr_c _ _) ?_))
  show wpAny _ _ (Builtin.Itertools.itBindNamed "combinations" ["iterable", "r"] 2 2 [.ref r, .int k tk0] [] >>= _) _ _ s
  refine wpAny_bind (wpAny_of_eq (bn_c _ _) ?_)
  show wpAny _ _ (Builtin.Itertools.itSsizeArg (.int k tk0) >>= _) _ _ s
  refine wpAny_bind (wpAny_of_eq (ss_c hk) ?_)
  show wpAny _ _ (collect (.ref r) >>= _) _ _ s
  refine wpAny_bind (L2.collect_range (A := A.in1) hh1 hr hsmall hn hlen fun h' tk acc hkp hi => ?_)
  have hsz := hi.1
  show wpAny _ _ (if (k : Int) < 0 then _ else _) _ _ _
  rw [if_neg (show ¬ ((k : Int) < 0) by omega)]
  show wpAny _ _ (if Builtin.Itertools.itTooMany (k : Int) = true then _ else _) _ _ _
  rw [if_neg (by unfold Builtin.Itertools.itTooMany; simp; omega)]
  show wpAny _ _ (newTuple acc.toList >>= _) _ _ _
  refine wpAny_bind ?_
  simp only [newTuple]
  refine wpAny_newObj_type ?_ (by show acc.toList.toArray.size ≤ sizeLine; simp only [Array.toArray_toList]; rw [hsz, sizeLine_eq]; omega)
  refine wpAny_pure ?_
  show wpAny _ _ (Builtin.Itertools.itNewRecord (.type "itertools.combinations") _ >>= _) _ _ _
  refine wpAny_bind ?_
  unfold Builtin.Itertools.itNewRecord
  rw [noDict_c]
  rw [if_pos (show (!false) = true from rfl)]
  have e1 : acc.toList.length = n := by rw [Array.length_toList]; exact hsz
  have e2 : (h'.push { cls := .type "tuple", data := .seq acc }).objs.size = h'.objs.size + 1 := Heap.size_push ..
  have e := h h' tk acc hkp hi
  rw [← e2] at e
  have eA : acc.toList.toArray = acc := by simp
  have eo : ({ cls := .type "itertools.combinations", data := .fields ([Value.ref h'.objs.size, rawInt (if (k : Int).toNat > acc.toList.length then 2 else 0), Value.none] ++ List.map (fun (i : Nat) => rawInt i) (List.range (k : Int).toNat)).toArray } : Obj) =
      cObj h'.objs.size (if k > n then 2 else 0) .none (List.range k) := by
    rw [e1, Int.toNat_natCast]
    simp [rawInt]
  refine wpAny_newObj_type (wpAny_pure ?_) (by show Array.size _ ≤ sizeLine + 2; rw [sizeLine_eq]; simp; omega)
  show Q₁ (.ref (h'.push { cls := .type "tuple", data := .seq acc.toList.toArray }).objs.size) { s with heap := (h'.push { cls := .type "tuple", data := .seq acc.toList.toArray }).push ({ cls := .type "itertools.combinations", data := .fields ([Value.ref h'.objs.size, rawInt (if (k : Int).toNat > acc.toList.length then 2 else 0), Value.none] ++ List.map (fun (i : Nat) => rawInt i) (List.range (k : Int).toNat)).toArray } : Obj), toks := tk }
  rw [eo, eA]
  exact e
theorem call_comb {r : Addr} {a b c : Int} {t u v tk0 : Tok} {n : Nat} {k : Nat} {Q : Value → Shared → Prop} (hh : A.handled = none) (hr : IsRange s.heap r a b c t u v) (hsmall : Builtin.Range.small a b c = true) (hn : Builtin.Range.rangeSize a b c = n) (hlen : n ≤ 2 ^ 24) (hk : k ≤ 1000)
    (h : ∀ (h' : Heap) (tk : Nat) (acc : Array Value), (∀ b o, s.heap.get? b = some o → h'.get? b = some o) → ItemsOf (fun i v => ∃ t, v = .int (a + i * c) t) acc n →
      Q (.ref (h'.objs.size + 1)) { s with heap := (h'.push { cls := .type "tuple", data := .seq acc }).push (cObj h'.objs.size (if k > n then 2 else 0) .none (List.range k)), toks := tk }) :
    wpAny (model prog w) A (call (.type "itertools.combinations") [.ref r, .int k tk0]) Q E s := by
  refine callType_codes (Q₁ := fun obj s₁ => s₁.TypeIs obj "itertools.combinations" ∧ Q obj s₁) called_c (typeCall_c _ _) F.entry_object_init
    (code_new (A := A.in1) hh hr hsmall hn hlen hk fun h' tk acc hk hacc => ⟨⟨cObj h'.objs.size (if k > n then 2 else 0) .none (List.range k), ?_, rfl⟩, h h' tk acc hk hacc⟩) fun obj s₁ h₁ => ?_
  · have e2 : (h'.push { cls := .type "tuple", data := .seq acc }).objs.size = h'.objs.size + 1 := Heap.size_push ..
    rw [← e2]
    exact Heap.get?_push_size _ rfl
  · exact ⟨h₁.1, F.args_object_init_3 obj _ _, object_init_meets called_c.init.lookup called_c.made (by decide) prog w A.in1 _ s₁ ⟨h₁.1, rfl, h₁.2⟩⟩
theorem iter_comb {it pool : Addr} {st : Int} {last : Value} {idx : List Nat} {Q : Value → Shared → Prop} (hit : IsComb s.heap it pool st last idx) (h : Q (.ref it) s) : wpAny (model prog w) A (pyIter (.ref it)) Q E s := by
  have hT : s.TypeIs (.ref it) "itertools.combinations" := ⟨_, hit, rfl⟩
  refine wpAny_pyIter_slot hT slot_c_iter (wpAny_call_entry slot_c_iter hT entry_c_iter ?_ (args_c_iter _))
  show wpAny _ _ (ret (.ref it)) _ _ s
  exact wpAny_pure ⟨_, rfl, "itertools.combinations", _, hT, slot_c_next.lookup, h⟩
theorem comb_upd {h : Heap} {it pool : Addr} {st st' : Int} {last : Value} {idx : List Nat} (hit : IsComb h it pool st last idx) : IsComb (h.update it (Obj.mapFields fun x => x.setIfInBounds 1 (rawInt st'))) it pool st' last idx := by
  have e : Obj.mapFields (fun x => x.setIfInBounds 1 (rawInt st')) (cObj pool st last idx) = cObj pool st' last idx := by simp [Obj.mapFields, cObj, rawInt]
  have q := Heap.get?_update_self (Obj.mapFields fun x => x.setIfInBounds 1 (rawInt st')) hit rfl
  rw [e] at q
  exact q
theorem comb_upd2 {h : Heap} {it pool : Addr} {st : Int} {last last' : Value} {idx : List Nat} (hit : IsComb h it pool st last idx) : IsComb (h.update it (Obj.mapFields fun x => x.setIfInBounds 2 last')) it pool st last' idx := by
  have e : Obj.mapFields (fun x => x.setIfInBounds 2 last') (cObj pool st last idx) = cObj pool st last' idx := by simp [Obj.mapFields, cObj, rawInt]
  have q := Heap.get?_update_self (Obj.mapFields fun x => x.setIfInBounds 2 last') hit rfl
  rw [e] at q
  exact q
theorem comb_upd3 {h : Heap} {it pool : Addr} {st : Int} {last : Value} {idx idx' : List Nat} (hit : IsComb h it pool st last idx) : IsComb (h.update it (Obj.mapFields fun fs => fs.extract 0 3 ++ (idx'.map fun (n : Nat) => rawInt n).toArray)) it pool st last idx' := by
  have e : Obj.mapFields (fun fs => fs.extract 0 3 ++ (idx'.map fun (n : Nat) => rawInt n).toArray) (cObj pool st last idx) = cObj pool st last idx' := by simp [Obj.mapFields, cObj, rawInt]
  have q := Heap.get?_update_self (Obj.mapFields fun fs => fs.extract 0 3 ++ (idx'.map fun (n : Nat) => rawInt n).toArray) hit rfl
  rw [e] at q
  exact q
theorem step_some {α β : Type} {M : Model} {A : Around} {E : Value → Shared → Prop} {s : Shared} {o : Option α} {j : α} {f : α → Sem β} {g : Sem β} {Q : β → Shared → Prop} (h : o = some j) (k : wpAny M A (f j) Q E s) : wpAny M A (match o with | some x => f x | none => g) Q E s := by
  subst h
  exact k
theorem step_none {α β : Type} {M : Model} {A : Around} {E : Value → Shared → Prop} {s : Shared} {o : Option α} {f : α → Sem β} {g : Sem β} {Q : β → Shared → Prop} (h : o = none) (k : wpAny M A g Q E s) : wpAny M A (match o with | some x => f x | none => g) Q E s := by
  subst h
  exact k
theorem hand {it pool : Addr} {last : Value} {idx : List Nat} {us : List Value} {P : Fin → Shared → Prop} (hit : IsComb s.heap it pool 1 last idx) (hp : s.heap.IsTuple pool us.toArray) (hlen : idx.length ≤ 1000)
    (hP : ∀ h', IsComb h' it pool 1 (.ref s.heap.objs.size) idx → h'.get? s.heap.objs.size = some { cls := .type "tuple", data := .seq (idx.map fun i => us.getD i .none).toArray } → (∀ b o, b ≠ it → s.heap.get? b = some o → h'.get? b = some o) →
      P (.done (.ret (.ref s.heap.objs.size))) { s with heap := h' }) :
    wpAny (model prog w) A ((Builtin.Itertools.itPoolItems (.ref pool) >>= fun xs => newTuple (idx.map fun i => xs.getD i .none)) >>= fun (r : Value) => field (.ref it) 2 >>= fun b => setField (.ref it) 2 r >>= fun _ => letGo [b] [r] >>= fun _ => ret r) P E s := by
  obtain ⟨op, hop, hc, n0, hd⟩ := id hp
  have hil : it < s.heap.objs.size := Heap.lt_size hit
  refine wpAny_bind (wpAny_bind ?_)
  show wpAny _ _ (seqItems? (.ref pool) >>= _) _ _ s
  refine wpAny_bind (wpAny_seqItems hop hd (wpAny_pure ?_))
  simp only [newTuple]
  have ev : (idx.map fun i => us.toArray.getD i Value.none) = idx.map fun i => us.getD i .none := by
    refine List.map_congr_left fun i _ => ?_
    simp [Array.getD_eq_getD_getElem?, List.getD_eq_getElem?_getD]
  rw [ev]
  refine wpAny_newObj_type ?_ (by show Array.size _ ≤ sizeLine; rw [sizeLine_eq]; simp; omega)
  have hit2 : IsComb (s.heap.push { cls := .type "tuple", data := .seq (idx.map fun i => us.getD i Value.none).toArray }) it pool 1 last idx := Heap.get?_push_of_some _ hit
  refine wpAny_bind (wpAny_field hit2 rfl f2 ?_)
  refine wpAny_bind (wpAny_setField hit2 rfl (by simp) ?_)
  refine wpAny_bind (wpAny_letGo (wpAny_pure ?_))
  refine hP _ (comb_upd2 hit2) ?_ fun b o hb e => ?_
  · exact (Heap.get?_update_ne _ _ _ _ (Nat.ne_of_gt hil)).trans (Heap.get?_push_size _ rfl)
  · exact (Heap.get?_update_ne _ _ _ _ hb).trans (Heap.get?_push_of_some _ e)
theorem next_start {it pool : Addr} {last : Value} {idx : List Nat} {us : List Value} {Q : Option Value → Shared → Prop} (hit : IsComb s.heap it pool 0 last idx) (hp : s.heap.IsTuple pool us.toArray) (hne : pool ≠ it) (hlen : idx.length ≤ 1000)
    (hQ : ∀ h', IsComb h' it pool 1 (.ref s.heap.objs.size) idx → h'.get? s.heap.objs.size = some { cls := .type "tuple", data := .seq (idx.map fun i => us.getD i .none).toArray } → (∀ b o, b ≠ it → s.heap.get? b = some o → h'.get? b = some o) →
      Q (some (.ref s.heap.objs.size)) { s with heap := h' }) : wpAny (model prog w) A (pyNext (.ref it)) Q E s := by
  have hT : s.TypeIs (.ref it) "itertools.combinations" := ⟨_, hit, rfl⟩
  have hil : it < s.heap.objs.size := Heap.lt_size hit
  unfold pyNext
  refine wpAny_bind (wpAny_attempt (wpAny_callSpecial?_slot (name := Str.ofString "__next__") hT slot_c_next (wpAny_call_entry slot_c_next hT entry_c_next ?_ (args_c_next _))))
  show wpAny _ _ (field (.ref it) 0 >>= _) _ _ s
  refine wpAny_bind (wpAny_field hit rfl f0 ?_)
  show wpAny _ _ (Builtin.Itertools.itNumbersFrom (.ref it) 3 >>= _) _ _ s
  refine wpAny_bind ?_
  show wpAny _ _ (load it >>= _) _ _ s
  refine wpAny_bind (wpAny_load hit ?_)
  refine wpAny_pure ?_
  generalize hg : List.map _ (List.drop 3 (Array.toList _)) = gl
  have eg : gl = idx := by
    rw [← hg, fdrop, List.map_map]
    exact List.map_id'' (fun n => Int.toNat_natCast n) idx
  subst eg
  show wpAny _ _ (Builtin.Itertools.itIntField (.ref it) 1 >>= _) _ _ s
  refine wpAny_bind ?_
  show wpAny _ _ (field (.ref it) 1 >>= _) _ _ s
  refine wpAny_bind (wpAny_field hit rfl f1 (wpAny_pure ?_))
  show wpAny _ _ (setField (.ref it) 1 (rawInt 1) >>= _) _ _ s
  refine wpAny_bind (wpAny_setField hit rfl (by simp) ?_)
  have hit1 := comb_upd (st' := 1) hit
  obtain ⟨op, hop, hc, n0, hd⟩ := id hp
  have hop1 : (s.heap.update it (Obj.mapFields fun x => x.setIfInBounds 1 (rawInt 1))).get? pool = some op := (Heap.get?_update_ne _ _ _ _ hne).trans hop
  have hp1 : (s.heap.update it (Obj.mapFields fun x => x.setIfInBounds 1 (rawInt 1))).IsTuple pool us.toArray := ⟨op, hop1, hc, n0, hd⟩
  have hz : (s.heap.update it (Obj.mapFields fun x => x.setIfInBounds 1 (rawInt 1))).objs.size = s.heap.objs.size := (Heap.SameBut.update s.heap it _).1
  refine hand (s := { s with heap := s.heap.update it (Obj.mapFields fun x => x.setIfInBounds 1 (rawInt 1)) }) (last := last) (us := us) hit1 hp1 hlen fun h' c1 c2 c3 => ?_
  rw [hz] at c1 c2
  refine ⟨_, by rw [hz], wpAny_pure (hQ h' c1 c2 fun b o hb e => c3 b o hb ((Heap.get?_update_ne _ _ _ _ hb).trans e))⟩
/-- the rising lists of r numbers from lo to n - 1, in their turn -/
def combsFrom (n : Nat) : Nat → Nat → List (List Nat)
  | 0, _ => [[]]
  | r + 1, lo => (List.range (n - lo)).flatMap fun i => (combsFrom n r (lo + i + 1)).map fun l => (lo + i) :: l
def combs (n r : Nat) : List (List Nat) := combsFrom n r 0
/-- f leads from each to the next -/
def chainB (f : Nat → List Nat → Option (List Nat)) (n : Nat) : List (List Nat) → Bool
  | [] => true
  | [x] => f n x == none
  | x :: y :: r => (f n x == some y) && chainB f n (y :: r)
/-- the end of a walk -/
theorem stop {Q : Option Value → Shared → Prop} (hh : A.handled = none) (hQ : ∀ h', (∀ b o, s.heap.get? b = some o → h'.get? b = some o) → Q none { s with heap := h' }) :
    wpAny (model prog w) A.in1 (Builtin.Itertools.itStop : Sem Fin) (fun fin s' => ∃ v, fin = .done (.ret v) ∧ wpAny (model prog w) A (match (Except.ok (some v) : Except Value (Option Value)) with
        | .ok (some v) => pure (some v)
        | .ok none => unsupported "iter:the-iterator's-class-has-lost-its-__next__-amid-the-walk"
        | .error e => do if (← isInstance e (.type "StopIteration")) then pure none else throw e) Q E s')
      (fun e s' => wpAny (model prog w) A (match (Except.error e : Except Value (Option Value)) with
        | .ok (some v) => pure (some v)
        | .ok none => unsupported "iter:the-iterator's-class-has-lost-its-__next__-amid-the-walk"
        | .error e => do if (← isInstance e (.type "StopIteration")) then pure none else throw e) Q E s') s := by
  unfold Builtin.Itertools.itStop
  refine wpAny_bind ?_
  simp only [newExc, newTuple]
  refine wpAny_bind (wpAny_newObj_type ?_ (by size_fits))
  refine wpAny_bind (m := firstArgMember _ _) (wpAny_of_eq (a := Value.none) (by first | rfl | (simp only [firstArgMember]; rfl)) ?_)
  refine wpAny_newObj_type ?_ (by size_fits)
  simp only [raiseNew]
  refine wpAny_bind (wpAny_handled ?_)
  first | rw [show A.in1.handled = none from hh] | rw [hh]
  refine wpAny_bind (wpAny_pure (wpAny_throw ?_))
  refine wpAny_bind (wpAny_isInstance (T := "StopIteration") (b := true) ⟨_, Heap.get?_push_size _ rfl, rfl⟩ isSubtype_stop ?_)
  exact wpAny_pure (hQ _ fun b o e => Heap.get?_push_of_some _ (Heap.get?_push_of_some _ e))
/-- the pools and lengths that are told -/
def inB (n r : Nat) : Bool := ((decide (n < 11) && decide (r < 4)) || (decide (n < 43) && decide (r = 2))) || (decide (n < 7) && decide (r < 7))
theorem inB_cases {n r : Nat} (h : inB n r = true) : (n < 11 ∧ r < 4) ∨ (n < 43 ∧ r = 2) ∨ (n < 7 ∧ r < 7) := by
  unfold inB at h
  rw [Bool.or_eq_true, Bool.or_eq_true, Bool.and_eq_true, Bool.and_eq_true, Bool.and_eq_true] at h
  rcases h with (h | h) | h
  · exact .inl ⟨of_decide_eq_true h.1, of_decide_eq_true h.2⟩
  · exact .inr (.inl ⟨of_decide_eq_true h.1, of_decide_eq_true h.2⟩)
  · exact .inr (.inr ⟨of_decide_eq_true h.1, of_decide_eq_true h.2⟩)
theorem inB_of {n r : Nat} (hn : n < 11) (hr : r < 4) : inB n r = true := by
  unfold inB
  rw [decide_eq_true hn, decide_eq_true hr]
  rfl
theorem inB_two {n : Nat} (hn : n < 43) : inB n 2 = true := by
  unfold inB
  rw [decide_eq_true hn]
  simp
theorem inB_six {n r : Nat} (hn : n < 7) (hr : r < 7) : inB n r = true := by
  unfold inB
  rw [decide_eq_true hn, decide_eq_true hr]
  simp
theorem by_inB {p : Nat → Nat → Prop} (h1 : ∀ n, n < 11 → ∀ r, r < 4 → p n r) (h2 : ∀ n, n < 43 → p n 2) (h3 : ∀ n, n < 7 → ∀ r, r < 7 → p n r) : ∀ n r, inB n r = true → p n r := fun n r h => by
  rcases inB_cases h with ⟨a, b⟩ | ⟨a, rfl⟩ | ⟨a, b⟩
  · exact h1 n a r b
  · exact h2 n a
  · exact h3 n a r b
theorem nx_ex : ∃ f : Nat → List Nat → Option (List Nat),
    (∀ (prog : Program) (w : World) (A : Around) (E : Value → Shared → Prop) (s : Shared) (it pool : Addr) (last : Value) (idx idx' : List Nat) (us : List Value) (Q : Option Value → Shared → Prop), IsComb s.heap it pool 1 last idx → s.heap.IsTuple pool us.toArray → pool ≠ it → idx'.length ≤ 1000 → f us.length idx = some idx' →
      (∀ h', IsComb h' it pool 1 (.ref s.heap.objs.size) idx' → h'.get? s.heap.objs.size = some { cls := .type "tuple", data := .seq (idx'.map fun i => us.getD i .none).toArray } → (∀ b o, b ≠ it → s.heap.get? b = some o → h'.get? b = some o) →
        Q (some (.ref s.heap.objs.size)) { s with heap := h' }) → wpAny (model prog w) A (pyNext (.ref it)) Q E s) ∧
    (∀ (prog : Program) (w : World) (A : Around) (E : Value → Shared → Prop) (s : Shared) (it pool : Addr) (last : Value) (idx : List Nat) (us : List Value) (Q : Option Value → Shared → Prop), A.handled = none → IsComb s.heap it pool 1 last idx → s.heap.IsTuple pool us.toArray → pool ≠ it → f us.length idx = none →
      (∀ h', (∀ b o, b ≠ it → s.heap.get? b = some o → h'.get? b = some o) → Q none { s with heap := h' }) → wpAny (model prog w) A (pyNext (.ref it)) Q E s) ∧
    (∀ n r, inB n r = true → chainB f n (combs n r) = true) := by
  apply Exists.intro
  refine ⟨?_, ?_, ?_⟩
  · intro prog w A E s it pool last idx idx' us Q hit hp hne hlen hf hQ
    have hT : s.TypeIs (.ref it) "itertools.combinations" := ⟨_, hit, rfl⟩
    have hil : it < s.heap.objs.size := Heap.lt_size hit
    obtain ⟨op, hop, hc, n0, hd⟩ := id hp
    unfold pyNext
    refine wpAny_bind (wpAny_attempt (wpAny_callSpecial?_slot (name := Str.ofString "__next__") hT slot_c_next (wpAny_call_entry slot_c_next hT entry_c_next ?_ (args_c_next _))))
    show wpAny _ _ (field (.ref it) 0 >>= _) _ _ s
    refine wpAny_bind (wpAny_field hit rfl f0 ?_)
    show wpAny _ _ (Builtin.Itertools.itNumbersFrom (.ref it) 3 >>= _) _ _ s
    refine wpAny_bind ?_
    show wpAny _ _ (load it >>= _) _ _ s
    refine wpAny_bind (wpAny_load hit ?_)
    refine wpAny_pure ?_
    generalize hg : List.map _ (List.drop 3 (Array.toList _)) = gl
    have eg : gl = idx := by
      rw [← hg, fdrop, List.map_map]
      exact List.map_id'' (fun n => Int.toNat_natCast n) idx
    subst eg
    show wpAny _ _ (Builtin.Itertools.itIntField (.ref it) 1 >>= _) _ _ s
    refine wpAny_bind ?_
    show wpAny _ _ (field (.ref it) 1 >>= _) _ _ s
    refine wpAny_bind (wpAny_field hit rfl f1 (wpAny_pure ?_))
    show wpAny _ _ (Builtin.Itertools.itPoolItems (.ref pool) >>= _) _ _ s
    refine wpAny_bind ?_
    show wpAny _ _ (seqItems? (.ref pool) >>= _) _ _ s
    refine wpAny_bind (wpAny_seqItems hop hd (wpAny_pure ?_))
    have ez : us.toArray.size = us.length := by simp
    rw [ez]
    split
    · rename_i nx heq
      have e : nx = idx' := Option.some.inj (heq.symm.trans hf)
      subst e
      show wpAny _ _ (Builtin.Itertools.itSetNumbersFrom (.ref it) 3 nx >>= _) _ _ s
      refine wpAny_bind ?_
      show wpAny _ _ (updateFields it _) _ _ s
      refine wpAny_updateFields hit rfl ?_ (by show Array.size _ ≤ sizeLine + 3; rw [sizeLine_eq]; simp; omega)
      have hit1 := comb_upd3 (idx' := nx) hit
      have hz : ∀ f, (s.heap.update it (Obj.mapFields f)).objs.size = s.heap.objs.size := fun f => (Heap.SameBut.update s.heap it _).1
      have hp1 : ∀ f, (s.heap.update it (Obj.mapFields f)).IsTuple pool us.toArray := fun f => ⟨op, (Heap.get?_update_ne _ _ _ _ hne).trans hop, hc, n0, hd⟩
      refine hand (s := { s with heap := s.heap.update it (Obj.mapFields _) }) (last := last) (us := us) hit1 (hp1 _) hlen fun h' c1 c2 c3 => ?_
      rw [hz] at c1 c2
      refine ⟨_, by rw [hz], wpAny_pure (hQ h' c1 c2 fun b o hb e => c3 b o hb ((Heap.get?_update_ne _ _ _ _ hb).trans e))⟩
    · rename_i heq
      cases heq.symm.trans hf
  · intro prog w A E s it pool last idx us Q hh hit hp hne hf hQ
    have hT : s.TypeIs (.ref it) "itertools.combinations" := ⟨_, hit, rfl⟩
    have hil : it < s.heap.objs.size := Heap.lt_size hit
    obtain ⟨op, hop, hc, n0, hd⟩ := id hp
    unfold pyNext
    refine wpAny_bind (wpAny_attempt (wpAny_callSpecial?_slot (name := Str.ofString "__next__") hT slot_c_next (wpAny_call_entry slot_c_next hT entry_c_next ?_ (args_c_next _))))
    show wpAny _ _ (field (.ref it) 0 >>= _) _ _ s
    refine wpAny_bind (wpAny_field hit rfl f0 ?_)
    show wpAny _ _ (Builtin.Itertools.itNumbersFrom (.ref it) 3 >>= _) _ _ s
    refine wpAny_bind ?_
    show wpAny _ _ (load it >>= _) _ _ s
    refine wpAny_bind (wpAny_load hit ?_)
    refine wpAny_pure ?_
    generalize hg : List.map _ (List.drop 3 (Array.toList _)) = gl
    have eg : gl = idx := by
      rw [← hg, fdrop, List.map_map]
      exact List.map_id'' (fun n => Int.toNat_natCast n) idx
    subst eg
    show wpAny _ _ (Builtin.Itertools.itIntField (.ref it) 1 >>= _) _ _ s
    refine wpAny_bind ?_
    show wpAny _ _ (field (.ref it) 1 >>= _) _ _ s
    refine wpAny_bind (wpAny_field hit rfl f1 (wpAny_pure ?_))
    show wpAny _ _ (Builtin.Itertools.itPoolItems (.ref pool) >>= _) _ _ s
    refine wpAny_bind ?_
    show wpAny _ _ (seqItems? (.ref pool) >>= _) _ _ s
    refine wpAny_bind (wpAny_seqItems hop hd (wpAny_pure ?_))
    have ez : us.toArray.size = us.length := by simp
    rw [ez]
    split
    · rename_i nx heq
      cases heq.symm.trans hf
    · rename_i heq
      show wpAny _ _ (setField (.ref it) 1 (rawInt 2) >>= _) _ _ s
      refine wpAny_bind (wpAny_setField hit rfl (by simp) ?_)
      have sb : Heap.ExtBut it s.heap (s.heap.update it (Obj.mapFields fun x => x.setIfInBounds 1 (rawInt 2))) := (Heap.SameBut.update ..).extBut
      exact stop (s := { s with heap := s.heap.update it (Obj.mapFields fun x => x.setIfInBounds 1 (rawInt 2)) }) hh fun h' eb => hQ h' fun b o hb e => eb b o (sb b o hb e)
  · exact by_inB (by decide +kernel) (by decide +kernel) (by decide +kernel)
theorem next_never {it pool : Addr} {last : Value} {idx : List Nat} {Q : Option Value → Shared → Prop} (hh : A.handled = none) (hit : IsComb s.heap it pool 2 last idx)
    (hQ : ∀ h', (∀ b o, b ≠ it → s.heap.get? b = some o → h'.get? b = some o) → Q none { s with heap := h' }) : wpAny (model prog w) A (pyNext (.ref it)) Q E s := by
  have hT : s.TypeIs (.ref it) "itertools.combinations" := ⟨_, hit, rfl⟩
  unfold pyNext
  refine wpAny_bind (wpAny_attempt (wpAny_callSpecial?_slot (name := Str.ofString "__next__") hT slot_c_next (wpAny_call_entry slot_c_next hT entry_c_next ?_ (args_c_next _))))
  show wpAny _ _ (field (.ref it) 0 >>= _) _ _ s
  refine wpAny_bind (wpAny_field hit rfl f0 ?_)
  show wpAny _ _ (Builtin.Itertools.itNumbersFrom (.ref it) 3 >>= _) _ _ s
  refine wpAny_bind ?_
  show wpAny _ _ (load it >>= _) _ _ s
  refine wpAny_bind (wpAny_load hit ?_)
  refine wpAny_pure ?_
  show wpAny _ _ (Builtin.Itertools.itIntField (.ref it) 1 >>= _) _ _ s
  refine wpAny_bind ?_
  show wpAny _ _ (field (.ref it) 1 >>= _) _ _ s
  refine wpAny_bind (wpAny_field hit rfl f1 (wpAny_pure ?_))
  show wpAny _ _ (rule _ >>= _) _ _ s
  refine wpAny_bind (wpAny_rule ?_)
  exact stop hh fun h' eb => hQ h' fun b o _ e => eb b o e
end
end DvC

namespace Dv
open PySem PySem.Spec L2
open PyProof.Rows hiding St
open DvC
/-- the lists of L, one behind the other, each a new tuple -/
def Icb (L : List (List Nat)) : It :=
  ⟨fun i _ => i < L.length, fun i H v H' => ∃ Tp l, v = .ref Tp ∧ H Tp = none ∧ H' = upd H Tp (.tup (l.map fun (j : Nat) => V.int j)) ∧ L[i]? = some l, fun i _ => i = L.length⟩
/-- what is asked of L: that it is what combinations hands out of n things, r at a time -/
structure Cmb (f : Nat → List Nat → Option (List Nat)) (n r : Nat) (L : List (List Nat)) : Prop where
  none : n < r → L = []
  fst : r ≤ n → L[0]? = some (List.range r)
  nxt : ∀ i l, L[i]? = some l → f n l = L[i + 1]?
  lt : ∀ l ∈ L, l.length ≤ 1000 ∧ ∀ j ∈ l, j < n
theorem chain_nxt {f : Nat → List Nat → Option (List Nat)} {n : Nat} : ∀ {L : List (List Nat)}, chainB f n L = true → ∀ i l, L[i]? = some l → f n l = L[i + 1]?
  | [], _, i, l, h => by simp at h
  | [x], c, i, l, h => by
    cases i with
    | zero =>
      simp at h
      subst h
      unfold chainB at c
      simpa using c
    | succ i => simp at h
  | x :: y :: r, c, i, l, h => by
    unfold chainB at c
    rw [Bool.and_eq_true] at c
    cases i with
    | zero =>
      simp at h
      subst h
      simpa using c.1
    | succ i =>
      have q := chain_nxt (L := y :: r) c.2 i l (by simpa using h)
      simpa using q
def okC (n r : Nat) : Bool := (if n < r then (combs n r).isEmpty else (combs n r).head? == some (List.range r)) && (combs n r).all fun l => decide (l.length ≤ 1000) && l.all fun j => decide (j < n)
theorem okC_all : ∀ n, n < 11 → ∀ r, r < 4 → okC n r = true := by decide +kernel
theorem okC_in : ∀ n r, inB n r = true → okC n r = true := by_inB okC_all (by decide +kernel) (by decide +kernel)
theorem cmb_of {f : Nat → List Nat → Option (List Nat)} {n r : Nat} (ch : chainB f n (combs n r) = true) (ok : okC n r = true) : Cmb f n r (combs n r) := by
  unfold okC at ok
  rw [Bool.and_eq_true] at ok
  obtain ⟨h1, h2⟩ := ok
  refine ⟨fun h => ?_, fun h => ?_, chain_nxt ch, fun l hl => ?_⟩
  · rw [if_pos h] at h1
    exact List.isEmpty_iff.mp h1
  · rw [if_neg (by omega)] at h1
    rw [← List.head?_eq_getElem?]
    exact eq_of_beq h1
  · have q := List.all_eq_true.mp h2 l hl
    rw [Bool.and_eq_true] at q
    exact ⟨of_decide_eq_true q.1, fun j hj => of_decide_eq_true (List.all_eq_true.mp q.2 j hj)⟩
theorem vals_ix {n : Nat} {us : List Value} (hv : Vals ((List.range n).map fun (j : Nat) => V.int j) us) : ∀ {l : List Nat}, (∀ j ∈ l, j < n) → Vals (l.map fun (j : Nat) => V.int j) (l.map fun j => us.getD j .none)
  | [], _ => .nil
  | j :: r, h => by
    have hj := h j (List.mem_cons_self ..)
    obtain ⟨u, h1, h2⟩ := hv.get (i := j) (x := .int j) (by simp [hj])
    refine .cons ?_ (vals_ix hv fun k hk => h k (List.mem_cons_of_mem _ hk))
    show L2.RelV (.int j) (us.getD j .none)
    rw [List.getD_eq_getElem?_getD, h1]
    exact h2
def cst (it pool : Addr) (n r : Nat) (L : List (List Nat)) : Nat → Heap → Prop
  | 0, h => IsComb h it pool (if r > n then 2 else 0) .none (List.range r)
  | i + 1, h => ∃ last l, L[i]? = some l ∧ IsComb h it pool 1 last l
theorem cst_at {it pool : Addr} {n r : Nat} {L : List (List Nat)} : ∀ {i : Nat} {h : Heap}, cst it pool n r L i h → ∃ st last l, IsComb h it pool st last l
  | 0, h, q => ⟨_, _, _, q⟩
  | i + 1, h, ⟨last, l, _, q⟩ => ⟨_, _, _, q⟩
theorem turn_comb {P : Program} {w : World} {K : PySem.W.Frag} {tg : Expr} {f : Nat → List Nat → Option (List Nat)} {n r : Nat} {L : List (List Nat)} (it pool : Addr) (hne : pool ≠ it) (us : List Value) (hv : Vals ((List.range n).map fun (j : Nat) => V.int j) us) (hr : r ≤ 1000) (C : Cmb f n r L)
    (nx1 : ∀ (prog : Program) (w : World) (A : Around) (E : Value → Shared → Prop) (s : Shared) (it pool : Addr) (last : Value) (idx idx' : List Nat) (us : List Value) (Q : Option Value → Shared → Prop), IsComb s.heap it pool 1 last idx → s.heap.IsTuple pool us.toArray → pool ≠ it → idx'.length ≤ 1000 → f us.length idx = some idx' →
      (∀ h', IsComb h' it pool 1 (.ref s.heap.objs.size) idx' → h'.get? s.heap.objs.size = some { cls := .type "tuple", data := .seq (idx'.map fun i => us.getD i .none).toArray } → (∀ b o, b ≠ it → s.heap.get? b = some o → h'.get? b = some o) →
        Q (some (.ref s.heap.objs.size)) { s with heap := h' }) → wpAny (model prog w) A (pyNext (.ref it)) Q E s)
    (nx2 : ∀ (prog : Program) (w : World) (A : Around) (E : Value → Shared → Prop) (s : Shared) (it pool : Addr) (last : Value) (idx : List Nat) (us : List Value) (Q : Option Value → Shared → Prop), A.handled = none → IsComb s.heap it pool 1 last idx → s.heap.IsTuple pool us.toArray → pool ≠ it → f us.length idx = none →
      (∀ h', (∀ b o, b ≠ it → s.heap.get? b = some o → h'.get? b = some o) → Q none { s with heap := h' }) → wpAny (model prog w) A (pyNext (.ref it)) Q E s) :
    Turn P w K tg (Icb L) [it, pool] it (fun i h => h.IsTuple pool us.toArray ∧ cst it pool n r L i h) where
  mem := by simp
  obj := fun i h st b hb => by
    obtain ⟨⟨o, ho, hc, n0, hd⟩, q⟩ := st
    obtain ⟨st', last, l, q⟩ := cst_at q
    have e' : b = it ∨ b = pool := by simpa using hb
    rcases e' with z | z
    · rw [z]; exact ⟨_, q, fun v q => nomatch q⟩
    · rw [z]; exact ⟨o, ho, fun v q => by rw [hd] at q; cases q⟩
  keep := fun i h h' st k => by
    obtain ⟨hp, q⟩ := st
    refine ⟨hp.at fun o e => k pool (by simp) o e, ?_⟩
    cases i with
    | zero => exact k it (by simp) _ q
    | succ i =>
      obtain ⟨last, l, e, q⟩ := q
      exact ⟨last, l, e, k it (by simp) _ q⟩
  item := by
    intro X hP hw hK hc i pins s σ H E I hf st hg
    subst hP hw hK
    obtain ⟨hp, q⟩ := st
    have hg : i < L.length := hg
    have hlen : us.length = n := by
      have := hv.length
      simpa using this.symm
    have hl : L[i]? = some L[i] := List.getElem?_eq_getElem hg
    obtain ⟨c1, c2⟩ := C.lt _ (List.getElem_mem hg)
    have hpl : pool < s.heap.objs.size := by
      obtain ⟨o, ho, _⟩ := id hp
      exact Heap.lt_size ho
    have hil : it < s.heap.objs.size := by
      obtain ⟨_, _, _, q⟩ := cst_at q
      exact Heap.lt_size q
    -- what stands behind a turn
    have fin : ∀ h', IsComb h' it pool 1 (.ref s.heap.objs.size) L[i] → h'.get? s.heap.objs.size = some { cls := .type "tuple", data := .seq (L[i].map fun j => us.getD j .none).toArray } → (∀ b o, b ≠ it → s.heap.get? b = some o → h'.get? b = some o) →
        wpAny (model X.prog X.w) X.A (letOwnedTupleGo tg (.ref it) (.ref s.heap.objs.size)) (fun _ s2 => ∃ x H', Inv X pins σ H' s2 ∧ RelV x (.ref s.heap.objs.size) ∧ (Icb L).yld i H x H' ∧ (s2.heap.IsTuple pool us.toArray ∧ cst it pool n r L (i + 1) s2.heap) ∧ ∀ b ∈ [it, pool], H' b = none) E { s with heap := h' } := fun h' a b k => by
      refine go_of (s := { s with heap := h' }) (n := "itertools.combinations") a rfl rfl (by decide) ?_
      have new : ObjOk X.prog X.w (upd H s.heap.objs.size (.tup (L[i].map fun (j : Nat) => V.int j))) h' s.heap.objs.size (.tup (L[i].map fun (j : Nat) => V.int j)) :=
        ⟨by rw [List.length_map, sizeLine_eq]; omega, _, vals_ix hv c2, ⟨_, b, rfl, _, rfl⟩⟩
      have I1 : Inv X pins σ (upd H s.heap.objs.size (.tup (L[i].map fun (j : Nat) => V.int j))) { s with heap := h' } :=
        I.turnedNew (t' := s.toks) (ch := [it, pool]) (fun c o hb q => k c o (fun z => hb (by simp [z])) q) hf (Nat.le_refl _) new
      refine ⟨.ref s.heap.objs.size, _, I1, rfl, ⟨_, L[i], rfl, I.hok.fresh (Nat.le_refl _), rfl, hl⟩, ⟨hp.at fun o e => k pool o hne e, _, L[i], hl, a⟩, fun c hcm => ?_⟩
      have hlt : c < s.heap.objs.size := by
        have e' : c = it ∨ c = pool := by simpa using hcm
        rcases e' with z | z
        · rw [z]; exact hil
        · rw [z]; exact hpl
      rw [upd_ne (Nat.ne_of_lt hlt)]
      exact (hf c hcm).1
    cases i with
    | zero =>
      have hrn : r ≤ n := by
        cases Nat.lt_or_ge n r with
        | inl z => rw [C.none z] at hg; exact absurd hg (Nat.not_lt_zero _)
        | inr z => exact z
      have e0 : List.range r = L[0] := Option.some.inj ((C.fst hrn).symm.trans hl)
      have q' : IsComb s.heap it pool 0 .none (List.range r) := by
        have q2 : IsComb s.heap it pool (if r > n then 2 else 0) .none (List.range r) := q
        rw [if_neg (by omega)] at q2
        exact q2
      rw [e0] at q'
      exact next_start q' hp hne c1 fun h' a b k => ⟨_, rfl, fin h' a b k⟩
    | succ i =>
      obtain ⟨last, l, e, q⟩ := q
      exact nx1 _ _ _ _ s it pool last l L[i + 1] us _ q hp hne c1 (by rw [hlen, C.nxt i l e]; exact hl) fun h' a b k => ⟨_, rfl, fin h' a b k⟩
  done := by
    intro X hP hw hK hc i pins s σ H E I hf st hg
    subst hP hw hK
    obtain ⟨hp, q⟩ := st
    have hg : i = L.length := hg
    have hlen : us.length = n := by
      have := hv.length
      simpa using this.symm
    obtain ⟨f0, f1, f2, f3, f4, f5⟩ := hf it (by simp)
    have fin : ∀ h', (∀ b o, b ≠ it → s.heap.get? b = some o → h'.get? b = some o) → Inv X pins σ H { s with heap := h' } := fun h' k => I.turned (t' := s.toks) (fun b o hb e => k b o hb e) f0 f1 f3 f4 f5
    cases i with
    | zero =>
      have hrn : n < r := by
        cases Nat.lt_or_ge n r with
        | inl z => exact z
        | inr z =>
          have := C.fst z
          rw [List.getElem?_eq_none (by omega)] at this
          cases this
      have q' : IsComb s.heap it pool 2 .none (List.range r) := by
        have q2 : IsComb s.heap it pool (if r > n then 2 else 0) .none (List.range r) := q
        rw [if_pos hrn] at q2
        exact q2
      exact next_never (I.ok.hd hc) q' fun h' k => ⟨rfl, fin h' k⟩
    | succ i =>
      obtain ⟨last, l, e, q⟩ := q
      exact nx2 _ _ _ _ s it pool last l us _ (I.ok.hd hc) q hp hne (by rw [hlen, C.nxt i l e]; exact List.getElem?_eq_none (by omega)) fun h' k => ⟨rfl, fin h' k⟩
  self := fun A i s Q E st h => by
    obtain ⟨_, q⟩ := st
    obtain ⟨_, _, _, q⟩ := cst_at q
    exact iter_comb q h
/-- for .. in combinations(range(n), r) -/
def iComb (ta ts : TE) : TI := fun σ H R => ta σ H fun x H1 => ∃ n : Nat, x = .int n ∧ ts σ H1 fun v H2 => ∃ r : Nat, v = .int r ∧ inB n r = true ∧ R (Icb (combs n r)) H2
theorem pi_comb {X : Cx} {tg a e2 : Expr} {ta ts : TE} {p p2 pos pos2 : Pos} (hc : X.calm = true) (hg : Gl X "combinations") (hm : X.mg "combinations" = some (.type "itertools.combinations")) (hgr : Gl X "range") (hmr : X.mg "range" = none) (ha : PE X a ta) (hs : PE X e2 ts)
    (na : starEach [.Call (.Name "range" p2) [a] [] pos2, e2] X.env = (false, eval (.Call (.Name "range" p2) [a] [] pos2) X.env) :: starEach [e2] X.env := by rfl) (nb : starEach [e2] X.env = (false, eval e2 X.env) :: starEach [] X.env := by rfl) (hpl : (backTo pos (starEach [e2] X.env)).any (·.1) = false := by rfl)
    (nr : starEach [a] X.env = (false, eval a X.env) :: starEach [] X.env := by rfl) :
    PI X tg (.Call (.Name "combinations" p) [.Call (.Name "range" p2) [a] [] pos2, e2] [] pos) (iComb ta ts) := by
  refine ⟨fun pins s σ H R I h => ?_⟩
  obtain ⟨f, nx1, nx2, ch⟩ := nx_ex
  refine Call_ (ld_glob I hg hm (PyProof.Rows.callWith_type1 (args_cons ?_ na) na hpl))
  refine Call_ (ld_blt I hgr hmr PyProof.Rows.boot_range (PyProof.Rows.callWith_type1 (one_arg ha I h (fun u s1 x H1 I1 r1 q1 => ?_) nr) nr))
  obtain ⟨n, rfl, q1⟩ := q1
  obtain ⟨t, rfl⟩ := r1
  refine call_range_1 ?_
  have hsz : s1.heap.objs.size ≤ s1.heap.objs.size := Nat.le_refl _
  have hn1 : H1 s1.heap.objs.size = none := I1.hok.fresh hsz
  obtain ⟨g0, g1, g2, g3, g4, g5⟩ := I1.fpOk hsz hn1
  let ro : Obj := { cls := .type "range", data := .fields #[.int 0 s1.toks, .int (n : Nat) t, .int 1 (s1.toks + 1)] }
  have I1' : Inv X pins σ H1 { s1 with heap := s1.heap.push ro, toks := s1.toks + 1 + 1 } := I1.kept fun b o e => Heap.get?_push_of_some _ e
  have I1p : Inv X ((s1.heap.objs.size, ro) :: pins) σ H1 { s1 with heap := s1.heap.push ro, toks := s1.toks + 1 + 1 } := I1'.pins_of fun q hq => by
    rcases List.mem_cons.mp hq with z | z
    · subst z
      exact ⟨Heap.get?_push_size _ rfl, g0, g1, g2, fun v z => nomatch z⟩
    · exact I1'.pin q (List.mem_append_right _ z)
  refine args_cons (thn (hs.run _ _ σ H1 _ I1p q1) fun kv s2 ⟨y, H2, I2, r2, q2⟩ => args_nil ?_) nb
  obtain ⟨r, rfl, hin, q3⟩ := q2
  have hb : n < 43 ∧ r < 7 := by rcases inB_cases hin with z | z | z <;> omega
  obtain ⟨hn, hr4⟩ := hb
  obtain ⟨tk0, rfl⟩ := r2
  obtain ⟨hro, _⟩ := I2.pin (s1.heap.objs.size, ro) (List.mem_append_right _ (List.mem_cons_self ..))
  have I3 : Inv X pins σ H2 s2 := I2.pins_of fun q hq => I2.pin q (List.mem_append_right _ (List.mem_cons_of_mem _ hq))
  have hr2 : IsRange s2.heap s1.heap.objs.size 0 (n : Nat) 1 s1.toks t (s1.toks + 1) := hro
  refine call_comb (n := n) (k := r) (I3.ok.hd hc) hr2 (small_one (by omega) (by omega) (by omega) (by omega)) (rangeSize_nat 0 n) (by omega) (by omega) fun h' tk acc hk hi => ?_
  have C : Cmb f n r (combs n r) := cmb_of (ch n r hin) (okC_in n r hin)
  have hvals : Vals ((List.range n).map fun (j : Nat) => V.int j) acc.toList := by
    have e0 : ((n : Int) - 0).toNat = n := by omega
    have hi2 : ItemsOf (fun i v => ∃ t, v = .int (0 + i * 1) t) acc ((n : Int) - 0).toNat := by
      rw [e0]
      exact hi
    have e := vals_rg (a := 0) (b := n) (acc := acc) hi2
    unfold rgV at e
    rw [e0] at e
    have e3 : ((List.range n).map fun (i : Nat) => V.int (0 + (i : Nat))) = (List.range n).map fun (j : Nat) => V.int j := List.map_congr_left fun i _ => by rw [Int.zero_add]
    rw [e3] at e
    exact e
  have e2' : (h'.push { cls := .type "tuple", data := .seq acc }).objs.size = h'.objs.size + 1 := Heap.size_push ..
  have I4 : Inv X pins σ H2 { s2 with heap := (h'.push { cls := .type "tuple", data := .seq acc }).push (cObj h'.objs.size (if r > n then 2 else 0) .none (List.range r)), toks := tk } :=
    I3.kept fun b o e => Heap.get?_push_of_some _ (Heap.get?_push_of_some _ (hk b o e))
  have I5 : Inv X pins σ H2 { s2 with heap := h', toks := tk } := I3.kept hk
  have hit : IsComb ((h'.push { cls := .type "tuple", data := .seq acc }).push (cObj h'.objs.size (if r > n then 2 else 0) .none (List.range r))) (h'.objs.size + 1) h'.objs.size (if r > n then 2 else 0) .none (List.range r) := by
    rw [← e2']
    exact Heap.get?_push_size _ rfl
  have hpool : ((h'.push { cls := .type "tuple", data := .seq acc }).push (cObj h'.objs.size (if r > n then 2 else 0) .none (List.range r))).IsTuple h'.objs.size acc.toList.toArray := by
    rw [Array.toArray_toList]
    exact ⟨_, Heap.get?_push_of_some _ (Heap.get?_push_size _ rfl), rfl, _, rfl⟩
  refine iter_comb hit ?_
  refine ⟨h'.objs.size + 1, [h'.objs.size + 1, h'.objs.size], _, _, H2, rfl, I4, turn_comb (h'.objs.size + 1) h'.objs.size (Nat.ne_of_lt (Nat.lt_succ_self _)) acc.toList hvals (by omega) C nx1 nx2, ⟨hpool, hit⟩, fun b hb => ?_, q3⟩
  have e' : b = h'.objs.size + 1 ∨ b = h'.objs.size := by simpa using hb
  have hle : h'.objs.size ≤ b := by
    rcases e' with z | z
    · rw [z]; exact Nat.le_add_right _ _
    · rw [z]; exact Nat.le_refl _
  exact I5.fpOk hle (I5.hok.fresh hle)
theorem walk_comb {L : List (List Nat)} : Walk (Icb L) L.length (fun _ => True) (fun i H v H' => ∃ Tp l, v = .ref Tp ∧ H Tp = none ∧ H' = upd H Tp (.tup (l.map fun (j : Nat) => V.int j)) ∧ L[i]? = some l) :=
  ⟨fun _ _ hi _ => hi, fun _ _ => rfl, fun _ _ _ _ _ _ y => y⟩
/-- a list of numbers as a tuple -/
def lotD (l : List Nat) : PyData := .tuple (l.map fun (j : Nat) => .int j)
theorem d_ints {K : PySem.W.Frag} {T : List (Addr × Str)} {W : Wd K T} {H : Hp} : ∀ l : List Nat, DAll W H (l.map fun (j : Nat) => V.int j) (l.map fun (j : Nat) => PyData.int j)
  | [] => .nil
  | j :: r => .cons (.int _) (d_ints r)
theorem i_comb {K : PySem.W.Frag} {T : List (Addr × Str)} {G : Ctx} {ta ts : TE} {n r : Nat} (h : E K T ta G (· = .int n)) (h2 : E K T ts G (· = .int r)) (hin : inB n r = true) : Iwd K T (iComb ta ts) G ((combs n r).map lotD) := by
  unfold Iwd
  rw [List.length_map]
  intro W σ H s j R k
  refine h W σ H s j _ fun x d H1 e1 j1 dx px => ?_
  subst px
  refine ⟨n, dx.int_inv, h2 W σ H1 (s.mono e1) j1 _ fun y d2 H2 e2 j2 dy py => ?_⟩
  subst py
  refine ⟨r, dy.int_inv, hin, k (Icb (combs n r)) H2 _ _ (e1.trans e2) j2 walk_comb (fun _ _ _ _ => trivial) fun W2 i H3 v H4 c hi e3 j3 yv => ?_⟩
  obtain ⟨Tp, l, rfl, hT, rfl, hl⟩ := yv
  exact ⟨.new hT, j_new j3 hT, lotD l, .tup (new_ne j3 hT) upd_same (d_ints l), (by show ((combs n r).map lotD)[i]? = some (lotD l); rw [List.getElem?_map, hl]; rfl)⟩
end Dv

namespace DvT
open PySem PySem.Spec L2
open PyProof.Rows hiding St
section
variable {prog : Program} {w : World} {A : Around} {E : Value → Shared → Prop}
abbrev TKn (prog : Program) (w : World) : HeapKind prog w (List Key) := tupleKind (mixKind prog w)
/-- pair by pair into the dict -/
def putAll (acc : List (List Key × Addr × Value)) (rest : List (List Key × Addr × Value)) : List (List Key × Addr × Value) := rest.foldl (fun a q => storedH a q.1 q.2.1 q.2.2) acc
theorem key_moved {h h' : Heap} {k : List Key} {a I : Addr} (x : IsTupleKey (mixKind prog w) h k a) (ha : a ≠ I) (e : ∀ b o, b ≠ I → h.get? b = some o → h'.get? b = some o) : IsTupleKey (mixKind prog w) h' k a := by
  obtain ⟨o, its, n, h1, h2, h3, h4⟩ := x
  exact ⟨o, its, n, e _ _ ha h1, h2, h3, h4⟩
theorem dict_moved {h h' : Heap} {d I : Addr} {xs : List (List Key × Addr × Value)} (x : h.DictOfH (TKn prog w) d xs) (hd : d ≠ I) (hx : ∀ q ∈ xs, q.2.1 ≠ I) (e : ∀ b o, b ≠ I → h.get? b = some o → h'.get? b = some o) : h'.DictOfH (TKn prog w) d xs := by
  obtain ⟨o, es, ep, h1, h2, h3, h4, h5, h6⟩ := x
  exact ⟨o, es, ep, e _ _ hd h1, h2, h3, h4, fun q hq => key_moved (h5 q hq) (hx q hq) e, h6⟩
theorem stored_mem {xs : List (List Key × Addr × Value)} {k : List Key} {a : Addr} {v : Value} {q : List Key × Addr × Value} (h : q ∈ storedH xs k a v) : q.2.1 = a ∨ ∃ p ∈ xs, p.2.1 = q.2.1 := by
  unfold storedH at h
  split at h
  · obtain ⟨p, hp, e⟩ := List.mem_map.mp h
    refine .inr ⟨p, hp, ?_⟩
    rw [← e]
    unfold putAt
    split <;> rfl
  · rcases List.mem_append.mp h with h | h
    · exact .inr ⟨q, h, rfl⟩
    · rw [List.mem_singleton.mp h]; exact .inl rfl
theorem stored_len {xs : List (List Key × Addr × Value)} {k : List Key} {a : Addr} {v : Value} : (storedH xs k a v).length ≤ xs.length + 1 := by
  unfold storedH
  split
  · rw [List.length_map]; omega
  · rw [List.length_append, List.length_singleton]; omega
theorem pairs_walk {R : Result → Shared → Prop} {D I l : Addr} {items : Array Value} {res : Value} (hA : A.handled = none) (hu : A.in1.units < cLine) (hlI : l ≠ I) (hDI : D ≠ I) (hDl : D ≠ l) :
    ∀ (rest : List (List Key × Addr × Value)) (i : Nat) (acc : List (List Key × Addr × Value)) (ix : Int) (t : Tok) (s : Shared), items.size = i + rest.length → acc.length + rest.length ≤ sizeLine → (∀ q ∈ acc, q.2.1 ≠ I ∧ q.2.1 ≠ D) →
      (∀ (j : Nat) (q : List Key × Addr × Value), rest[j]? = some q → ∃ b : Addr, items[i + j]? = some (.ref b) ∧ b ≠ D ∧ b ≠ I ∧ IsTup s.heap b #[.ref q.2.1, q.2.2] ∧ q.2.1 ≠ I ∧ q.2.1 ≠ D ∧ IsTupleKey (mixKind prog w) s.heap q.1 q.2.1) →
      s.heap.IsListIter I l i → s.heap.IsList l items → s.heap.DictOfH (TKn prog w) D acc →
      (∀ h' tk, h'.DictOfH (TKn prog w) D (putAll acc rest) → (∀ b o, b ≠ D → b ≠ I → s.heap.get? b = some o → h'.get? b = some o) → R (.ok (.ret res)) { s with heap := h', toks := tk }) →
      codeAny (model prog w) A (.builtin "dict.update.loop" ⟨[.ref D, .ref I, .int ix t, res], []⟩) R s
  | [], i, acc, ix, t, s, hsz, hln, hacc, ht, hit, hl, hm, hR => by
    refine (codeAny_builtin ud_entry) ?_; rw [Around.under_plainId ud_plain]
    show wpAny (model prog w) A.in1 (pyNext (.ref I) >>= _) _ _ s
    refine wpAny_bind (wpAny_pyNext_list_end (A := A.in1) hA hit hl (Array.getElem?_eq_none (by rw [hsz]; exact Nat.le_refl _)) fun h' he => ?_)
    show wpAny (model prog w) A.in1 (Builtin.Dict.addKeywords D [] >>= _) _ _ _
    exact wpAny_bind (wpAny_pure (wpAny_pure (hR h' s.toks (dict_moved hm hDI (fun q hq => (hacc q hq).1) fun b o hb e => he b o hb e) fun b o _ hb e => he b o hb e)))
  | q :: rest, i, acc, ix, t, s, hsz, hln, hacc, ht, hit, hl, hm, hR => by
    obtain ⟨b, hb, hbD, hbI, htup, hqI, hqD, hk⟩ := ht 0 q rfl
    have hsz' : items.size = i + (rest.length + 1) := hsz
    have hln' : acc.length + (rest.length + 1) ≤ sizeLine := hln
    refine (codeAny_builtin ud_entry) ?_; rw [Around.under_plainId ud_plain]
    show wpAny (model prog w) A.in1 (pyNext (.ref I) >>= _) _ _ s
    refine wpAny_bind (wpAny_pyNext_list_item (x := .ref b) hit hl hb fun h1 hit1 hs1 => ?_)
    have k1 : ∀ c o, c ≠ I → s.heap.get? c = some o → h1.get? c = some o := fun c o hc e => hs1.extBut c o hc e
    have hl1 : h1.IsList l items := hl.extBut hs1.extBut hlI
    have hm1 := dict_moved hm hDI (fun q hq => (hacc q hq).1) k1
    have hk1 := key_moved hk hqI k1
    have htup1 : IsTup h1 b #[.ref q.2.1, q.2.2] := htup.extBut hs1.extBut hbI
    obtain ⟨o, ho, hc, n, hd⟩ := htup1
    show wpAny (model prog w) A.in1 (holding [Value.ref b] _ >>= _) _ _ _
    refine wpAny_bind (wpAny_holding (wpAny_bind (wpAny_tryCatch ?_)))
    unfold Builtin.Dict.pairItems
    refine wpAny_bind (wpAny_typeOf (T := "tuple") ⟨o, ho, hc⟩ ?_)
    rw [if_pos (by first | decide | rfl | simp)]
    refine (wpAny_bind (wpAny_seqItems ho hd (wpAny_pure ?_)))
    show wpAny (model prog w) A.in1 (holding [.ref q.2.1, q.2.2] (dictSet D (.ref q.2.1) q.2.2)) _ _ _
    refine wpAny_holding (wpAny_dictSet_heap (knd := TKn prog w) (k := q.1) hu hk1 hm1 (fun h2 hm2 hs2 => ?_) (by omega))
    have k2 : ∀ c o, c ≠ D → h1.get? c = some o → h2.get? c = some o := fun c o hc e => hs2.extBut c o hc e
    refine wpAny_pure ⟨plainId_quiet ud_plain _, pairs_walk hA hu hlI hDI hDl rest (i + 1) _ (ix + 1) 0 _ (show items.size = i + 1 + rest.length by omega) ?_ (fun p hp => ?_) (fun j q' e => ?_) ?_ ?_ hm2 fun h' tk hd' kk => ?_⟩
    · have := stored_len (xs := acc) (k := q.1) (a := q.2.1) (v := q.2.2)
      omega
    · rcases stored_mem hp with e | ⟨p', hp', e⟩
      · rw [e]; exact ⟨hqI, hqD⟩
      · rw [← e]; exact hacc p' hp'
    · obtain ⟨b', g1, g2, g3, g4, g5, g6, g7⟩ := ht (j + 1) q' e
      refine ⟨b', by rw [show i + 1 + j = i + (j + 1) by omega]; exact g1, g2, g3, ?_, g5, g6, key_moved (key_moved g7 g5 k1) g6 k2⟩
      exact (g4.extBut hs1.extBut g3).extBut hs2.extBut g2
    · exact hit1.at fun o' e => k2 I o' (fun z => hDI z.symm) e
    · exact hl1.extBut hs2.extBut fun z => hDl z.symm
    · exact hR h' tk hd' fun c oc h3 h4 e => kk c oc h3 h4 (k2 c oc h3 (k1 c oc h4 e))
/-- dict(l), l a list of pairs whose first is a tuple -/
theorem dict_call {s : Shared} {l : Addr} {ol : Obj} {items : Array Value} {n : Nat} {prs : List (List Key × Addr × Value)} {Q : Value → Shared → Prop} (hA : A.handled = none) (hu : A.in1.in1.units < cLine) (hl : s.heap.get? l = some ol) (hc : ol.cls = .type "list") (hd : ol.dict = none)
    (hdat : ol.data = .seq items n) (hsz : items.size = prs.length) (hln : prs.length ≤ sizeLine)
    (ht : ∀ (j : Nat) (q : List Key × Addr × Value), prs[j]? = some q → ∃ b : Addr, items[j]? = some (.ref b) ∧ IsTup s.heap b #[.ref q.2.1, q.2.2] ∧ IsTupleKey (mixKind prog w) s.heap q.1 q.2.1)
    (h : ∀ h' tk, h'.DictOfH (TKn prog w) s.heap.objs.size (putAll [] prs) → (∀ b o, s.heap.get? b = some o → h'.get? b = some o) → Q (.ref s.heap.objs.size) { s with heap := h', toks := tk }) :
    wpAny (model prog w) A (call (.type "dict") [.ref l]) Q E s := by
  refine callType_codes (Q₁ := fun ob s1 => ob = .ref s.heap.objs.size ∧ s1 = { s with heap := s.heap.push { cls := .type "dict", data := .dict #[] } }) PySem.F.kt_called_dict (PySem.F.kt_typeCall_dict_1 _) PySem.F.entry_dict_init (kt_code_dict_new _ ⟨rfl, rfl⟩) ?_
  rintro ob s1 ⟨rfl, rfl⟩
  have fresh : (s.heap.push { cls := .type "dict", data := .dict #[] }).DictOfH (TKn prog w) s.heap.objs.size [] := Heap.DictOfH.new s.heap
  have keep0 : ∀ b o, s.heap.get? b = some o → (s.heap.push { cls := .type "dict", data := .dict #[] }).get? b = some o := fun b o e => Heap.get?_push_of_some _ e
  have isD : ∀ t', Shared.TypeIs { s with heap := s.heap.push { cls := .type "dict", data := .dict #[] }, toks := t' } (.ref s.heap.objs.size) "dict" := fun t' => ⟨_, Heap.get?_push_size _ rfl, rfl⟩
  refine ⟨isD _, PySem.F.args_dict_init_2 _ _, ?_⟩
  unfold Builtin.«dict.__init__»; refine wpAny_bind ?_
  unfold Builtin.Dict.selfAndRest; refine wpAny_bind (wpAny_notOrdered_dict (isD _) ?_)
  show wpAny (model prog w) _ (pure (s.heap.objs.size, [Value.ref l])) _ _ _
  refine wpAny_pure ?_
  show wpAny (model prog w) _ (Builtin.Dict.updateFrom "dict.__init__" s.heap.objs.size (.ref l) [] .none) _ _ _
  unfold Builtin.Dict.updateFrom; refine wpAny_bind (wpAny_typeOf (T := "list") ⟨ol, keep0 _ _ hl, hc⟩ ?_)
  rw [if_pos (by first | decide | rfl | simp)]
  refine wpAny_bind (miss_list (keep0 _ _ hl) hc hdat hd hA fun h1 tk1 hk1 => ?_)
  rw [if_pos (show (none : Option Value).isNone = true from rfl)]; refine wpAny_bind (wpAny_rule ?_)
  have isL : h1.IsList l items := ⟨ol, hk1 _ _ (keep0 _ _ hl), hc, n, hdat⟩
  have ltD : s.heap.objs.size < h1.objs.size := Heap.lt_size (hk1 s.heap.objs.size { cls := .type "dict", data := .dict #[] } (Heap.get?_push_size _ rfl))
  refine wpAny_bind (wpAny_pyIter_list isL ?_)
  have keep2 : ∀ b o, s.heap.get? b = some o → (h1.push { cls := .type "list_iterator", data := .fields #[.ref l, .int 0 0] }).get? b = some o := fun b o e => Heap.get?_push_of_some _ (hk1 _ _ (keep0 _ _ e))
  have ltl : l < s.heap.objs.size := Heap.lt_size hl
  have newK : ∀ b o, s.heap.get? b = some o → b ≠ s.heap.objs.size ∧ b ≠ h1.objs.size := fun b o e => ⟨Nat.ne_of_lt (Heap.lt_size e), Nat.ne_of_lt (Nat.lt_trans (Heap.lt_size e) ltD)⟩
  have walk := pairs_walk (prog := prog) (w := w) (A := A.in1) (R := wants (fun r s2 => r = .none ∧ Q (.ref s.heap.objs.size) s2) E) (D := s.heap.objs.size) (I := h1.objs.size) (l := l) (items := items) (res := Value.none) hA hu
    (newK l ol hl).2 (Nat.ne_of_lt ltD) (fun z => (newK l ol hl).1 z.symm) prs 0 [] 0 0 { s with heap := h1.push { cls := .type "list_iterator", data := .fields #[.ref l, .int 0 0] }, toks := tk1 } (by rw [hsz, Nat.zero_add]) (by rw [List.length_nil, Nat.zero_add]; exact hln) (fun q hq => by cases hq)
    (fun j q e => by
      obtain ⟨b, e1, e2, e3⟩ := ht j q e
      obtain ⟨o1, g1, _⟩ := id e2
      obtain ⟨o2, _, _, g2, _⟩ := id e3
      exact ⟨b, by rw [Nat.zero_add]; exact e1, (newK b o1 g1).1, (newK b o1 g1).2, e2.keeps keep2, (newK _ o2 g2).2, (newK _ o2 g2).1, key_moved (I := h1.objs.size) e3 (newK _ o2 g2).2 fun b o _ e => keep2 b o e⟩)
    ⟨_, Heap.get?_push_size _ rfl, rfl, rfl⟩ (isL.at fun o e => Heap.get?_push_of_some _ e)
    (dict_moved (I := h1.objs.size) fresh (Nat.ne_of_lt ltD) (fun q hq => by cases hq) fun b o _ e => Heap.get?_push_of_some _ (hk1 _ _ e))
    (fun h' tk hd' k => ⟨rfl, h h' tk hd' fun b o e => k b o (newK b o e).1 (newK b o e).2 (keep2 b o e)⟩)
  first
    | exact wpAny_pure ⟨plainId_quiet ud_plain _, walk⟩
    | exact wpAny_bind (wpAny_pure (wpAny_pure ⟨plainId_quiet ud_plain _, walk⟩))
end
end DvT

namespace DvT
open PySem PySem.Spec L2
open PyProof.Rows hiding St
section
variable {prog : Program} {w : World} {A : Around} {E : Value → Shared → Prop} {s : Shared}
/-- found.add(x), x a tuple of ints -/
theorem add_tup {D q : Addr} {k : List Int} {L : List (Addr × List Int)} {es : Array (Int × Value)} {ep : Nat} {t : SetTable} {Q : Value → Shared → Prop} (R : SetTR prog w s.heap D L es ep t) (hx : IsT prog w s.heap k q) (hu : A.in1.units < cLine) (few : L.length + 1 < 64)
    (hQ : ∀ h' tk L' es' ep' t', Heap.SameBut D s.heap h' → SetTR prog w h' D L' es' ep' t' → (k ∈ L.map (·.2) → L' = L) → (k ∉ L.map (·.2) → L'.Perm ((q, k) :: L)) → Q .none { s with heap := h', toks := tk }) :
    wpAny (model prog w) A (call (.builtin "set.add") [.ref D, .ref q]) Q E s := by
  have isS : s.TypeIs (.ref D) "set" := by
    obtain ⟨o, ho, hex, _⟩ := R.ob
    exact ⟨o, ho, hex.1⟩
  refine wpAny_call_entry F.slot_set_add isS F.entry_set_add ?_ (F.args_set_add_2 _ _); unfold Builtin.«set.add» Builtin.Frozenset.oneOther
  simp only [List.isEmpty_nil, bind_assoc]; unfold Builtin.Frozenset.addrOf setAdd
  refine wpAny_bind (wpAny_pure ?_); (try dsimp only); refine wpAny_bind (wpAny_pure ?_); (try dsimp only)
  refine wpAny_bind (wpAny_holding (wpAny_bind (wpAny_pyHash_tuple (knd := intKind prog w) hu hx ?_)))
  refine add_at (s := { s with toks := s.toks + (k.length + 1) }) R hx hu few fun b h' L' es' ep' t' sb R' h1 h2 => ?_
  show wpAny (model prog w) A.in1 (ret Value.none) _ _ _
  exact wpAny_pure ⟨_, rfl, hQ h' _ L' es' ep' t' sb R' h1 h2⟩
end
section
variable {X : Cx}
theorem inv_add {pins : List (Addr × Obj)} {σ : L2.St} {H : Hp} {s : Shared} {E : Value → Shared → Prop} {D q : Addr} {k : List Int} {L : List (Addr × List Int)} {Q : Value → Shared → Prop} (I : Inv X pins σ H s) (hu : X.A.in1.units < cLine) (hD : H D = some (SetTO X.prog X.w D L)) (hL : ∀ p ∈ L, SqT X.K H p.1 (p.2.map V.int)) (hq : SqT X.K H q (k.map V.int)) (few : L.length + 1 < 64)
    (h : ∀ s' L', Inv X pins σ (upd H D (SetTO X.prog X.w D L')) s' → (k ∈ L.map (·.2) → L' = L) → (k ∉ L.map (·.2) → L'.Perm ((q, k) :: L)) → Q .none s') : wpAny (model X.prog X.w) X.A (call (.builtin "set.add") [.ref D, .ref q]) Q E s := by
  obtain ⟨R0, _⟩ := I.hok D _ hD
  obtain ⟨es, ep, t, R⟩ := SetT0.full R0 fun p hp => I.isT (hL p hp)
  refine add_tup R (I.isT hq) hu few fun h' tk L' es' ep' t' sb R' h1 h2 => h _ L' ?_ h1 h2
  have there : ∃ u, h'.get? D = some u := by
    obtain ⟨o, ho, _⟩ := R'.ob
    exact ⟨o, ho⟩
  exact I.write (e := D) (t' := tk) (by rw [hD]; trivial) (.inl rfl) (fun b u hb e => (sb.2 b hb).trans e) there (setTO_new R'.t0)
/-- {elt for target in iter if ..}, elt a tuple of ints -/
def tSct (P : Program) (w : World) (K : PySem.W.Frag) (wi : TI) (g : TG) (tt : TT) (te : TE) (vs : List Nat) : TE := fun σ H Q => wi σ H fun J H1 => ∀ D, H1 D = none → ∃ W : Nat → Nat → Hp → Prop, (∃ m, W 0 m (upd H1 D (SetTO P w D []))) ∧ ∀ i m H, W i m H →
  (J.stop i H ∧ Q (.ref D) H) ∨ (J.go i H ∧ ∃ Nx : Hp → Prop, (∀ H', Nx H' → ∃ m', m' < m ∧ W (i + 1) m' H') ∧ ∀ x H', J.yld i H x H' → g x (wipe σ vs) H' fun σ2 H2 => wipe σ2 vs = wipe σ vs ∧ tt σ2 H2 fun b H3 =>
    if b = true then te σ2 H3 fun y H4 => ∃ (q : Addr) (k : List Int) (L : List (Addr × List Int)), y = .ref q ∧ SqT K H4 q (k.map V.int) ∧ H4 D = some (SetTO P w D L) ∧ (∀ p ∈ L, SqT K H4 p.1 (p.2.map V.int)) ∧ L.length + 1 < 64 ∧
      ∀ L', (k ∈ L.map (·.2) → L' = L) → (k ∉ L.map (·.2) → L'.Perm ((q, k) :: L)) → Nx (upd H4 D (SetTO P w D L')) else Nx H3)
theorem pe_sct {elt tg iter : Expr} {ifs : List Expr} {scope : Scope} {own : List (Str × Nat)} {pos : Pos} {wi : TI} {g : TG} {tt : TT} {te : TE} (hc : X.calm = true) (hN : X.N.Nodup) (hu : X.A.units + 64 < cLine) (hi : PI X tg iter wi) (ok : BlkOk X.N X.env.scope scope own)
    (hg : ∀ (s : Shared) (H : Hp) (C : Addr) (cl : List (Str × Addr)) (fp : List Addr), PG (X.blk s H scope (compEnvC scope cl C X.env) fp) tg g) (ht : ∀ (s : Shared) (H : Hp) (C : Addr) (cl : List (Str × Addr)) (fp : List Addr), PTs (X.blk s H scope (compEnvC scope cl C X.env) fp) ifs tt)
    (he : ∀ (s : Shared) (H : Hp) (C : Addr) (cl : List (Str × Addr)) (fp : List Addr), PE (X.blk s H scope (compEnvC scope cl C X.env) fp) elt te) (hs : ∀ x, foldedSetIterable iter X.env x = pure x := by intro _; rfl) :
    PE X (.SetComp elt [⟨tg, iter, ifs, 0⟩] scope pos) (tSct X.prog X.w X.K wi g tt te (own.map (·.2))) := by
  refine ⟨fun pins s σ H Q I h => ?_⟩
  have seen : ∀ y ∈ scope.names, y.2 = .free → ∃ c, X.env.cells.lookup y.1 = some c := fun y hy e => (ok.free y hy e).elim (fun k => I.ok.has _ (.inl k)) fun k => I.ok.has _ (.inr k)
  rw [PpSet.eval_SetComp]
  refine wpAny_comprehension_free (use := none) rfl hs (closure_ok seen) ok.kind (fun y hy e => by rw [ok.uniq y hy, e]) (thn (hi.run pins s σ H _ I h) fun xv s1 hx => thn hx fun itv s2 ⟨it, fp, tn, J, H2, ei, I2, T, st2, f2, q⟩ => ?_)
  subst ei
  refine PpSet.newSet_ok (newEnv_comp ?_)
  obtain ⟨W, ⟨m0, w0⟩, turn⟩ := q s2.heap.objs.size (I2.hok.fresh (Nat.le_refl _))
  generalize hD : s2.heap.objs.size = D at w0 turn
  let so : Obj := { cls := .type "set", dict := none, data := .set #[] 0 (.fresh 0 0 (!X.w.params.followText "set-order")) }
  have hDn : H2 D = none := I2.hok.fresh (Nat.le_of_eq hD)
  obtain ⟨s3, hs3⟩ : ∃ s3 : Shared, s3 = { s2 with heap := s2.heap.push so } := ⟨_, rfl⟩
  obtain ⟨H3, hH3⟩ : ∃ H3 : Hp, H3 = upd H2 D (SetTO X.prog X.w D []) := ⟨_, rfl⟩
  have up3 : ∀ b o, s2.heap.get? b = some o → s3.heap.get? b = some o := fun b o e => by rw [hs3]; exact Heap.get?_push_of_some _ e
  have I3 : Inv X pins σ H3 s3 := by
    rw [hs3, hH3]
    refine I2.laid (t' := s2.toks) (fun b o e => Heap.get?_push_of_some _ e) (Nat.le_of_eq hD) (setTO_new (SetTR.t0 (setTR_fresh ?_)))
    rw [← hD]
    exact Heap.get?_push_size _ rfl
  have below : ∀ b ∈ fp, b < s2.heap.objs.size := fun b hb => by
    obtain ⟨o, e, _⟩ := T.obj _ _ st2 b hb
    exact Heap.lt_size e
  have f3 : ∀ b ∈ fp, FpOk X pins H3 b ∧ b < s3.heap.objs.size := fun b hb => by
    have lt := below b hb
    obtain ⟨g1, g2⟩ := f2 b hb
    refine ⟨⟨?_, g2⟩, by rw [hs3, Heap.size_push]; exact Nat.lt_succ_of_lt lt⟩
    rw [hH3, upd_ne (fun z => absurd lt (by rw [z, ← hD]; exact Nat.lt_irrefl _))]
    exact g1
  have st3 : tn 0 s3.heap := T.keep _ _ _ st2 fun b _ o e => up3 b o e
  have I4 := block_start I3 ok hN f3
  obtain ⟨cl, hcl⟩ : ∃ cl, cl = cellsFrom (s3.heap.objs.size + 1) scope.names (cloFrom X.env.cells scope.names []) := ⟨_, rfl⟩
  obtain ⟨ce, hce⟩ : ∃ ce, ce = compEnvC scope cl s3.heap.objs.size X.env := ⟨_, rfl⟩
  have pg := hg s3 H3 s3.heap.objs.size cl fp
  have pt := ht s3 H3 s3.heap.objs.size cl fp
  have pe := he s3 H3 s3.heap.objs.size cl fp
  rw [← hce] at pg pt pe
  rw [← hcl, ← hce] at I4
  have atL : ce.locals = s3.heap.objs.size := by rw [hce]; rfl
  obtain ⟨s4, hs4⟩ : ∃ s4 : Shared, s4 = { s3 with heap := pushCells (s3.heap.push { cls := .type "dict", data := .dict #[] }) scope.names } := ⟨_, rfl⟩
  rw [← hs4] at I4
  have st4 : tn 0 s4.heap := T.keep _ _ _ st3 fun b _ o e => by rw [hs4]; exact pushCells_keeps _ _ _ _ (Heap.get?_push_of_some _ e)
  have fpO : ∀ {σ' : L2.St} {H' : Hp} {s' : Shared}, Inv (X.blk s3 H3 scope ce fp) [] σ' H' s' → (∀ b ∈ fp, H' b = none) → ∀ b ∈ fp, FpOk (X.blk s3 H3 scope ce fp) [] H' b := fun {σ' H' s'} I' hn b hb =>
    ⟨hn b hb, (I'.ok.exf b hb).1, I'.ok.exfs b hb, .inl hb, fun x c e => (I'.ok.exf b hb).2 x c e, fun p hp => absurd (show p ∈ ([] : List (Addr × Obj)) ++ [] from hp) (by simp)⟩
  have loop : codeAny (model X.prog X.w) X.A (.compLoop (.SetComp elt [⟨tg, iter, ifs, 0⟩] scope pos) 0 (.ref it) (.ref D) ce) (compPost (model X.prog X.w) X.A X.xe none (EP X pins σ Q) (.ref D) s3.heap.objs.size) s4 := by
    refine PpSet.compLoopS_any (fun n s' => ∃ i H', Inv (X.blk s3 H3 scope ce fp) [] (wipe σ (own.map (·.2))) H' s' ∧ tn i s'.heap ∧ (∀ b ∈ fp, H' b = none) ∧ W i n H') ?_ m0 ⟨0, H3, I4, st4, fun b hb => (f3 b hb).1.1, by rw [hH3]; exact w0⟩
    rintro n s5 ⟨i, H5, I5, st5, n5, w5⟩
    rcases turn i n H5 w5 with ⟨stops, qq⟩ | ⟨goes, Nx, hNx, step⟩
    · refine thnF (T.done (X.blk s3 H3 scope ce fp) rfl rfl rfl hc i [] s5 _ H5 (fun _ _ => False) I5 (fpO I5 n5) st5 stops) fun r s6 ⟨hr, I6⟩ => ?_
      subst hr
      have back : Inv X pins σ H5 s6 := I3.call' (ch := fp) I6.os I6.base I6.hok I6.bare fun b hb => ⟨(f3 b hb).1.2.2.2.1, (f3 b hb).1.2.1, (f3 b hb).1.2.2.2.2.1, (f3 b hb).1.2.2.2.2.2⟩
      have none5 : H5 s3.heap.objs.size = none := by rw [← atL]; exact I6.free
      obtain ⟨m, hn, _⟩ := I6.loc
      have hn' : s6.heap.Ns s3.heap.objs.size m := by rw [← atL]; exact hn
      obtain ⟨z0, z1, z2, z3, z4, z5⟩ := I3.fpOk (Nat.le_refl _) none5
      exact ⟨m, hn', fun h'' sb => ⟨.ref D, H5, back.turned (t' := s6.toks) (fun b o hb e => (sb.2 b hb).trans e) z0 z1 z3 z4 z5, rfl, qq⟩⟩
    · refine thnF (T.item (X.blk s3 H3 scope ce fp) rfl rfl rfl hc i [] s5 _ H5 (fun _ _ => False) I5 (fpO I5 n5) st5 goes) fun r s6 ⟨u, hr, h6⟩ => ?_
      subst hr
      refine thnF h6 fun _ s7 ⟨x, H7, I7, r7, y7, st7, n7⟩ => ?_
      refine thnF (pg.run _ s7 _ H7 x u _ (I7.pinned (fpO I7 n7) (T.obj _ _ st7)) r7 (step x H7 y7)) fun _ s8 ⟨σ8, H8, I8, hw8, q8⟩ => ?_
      refine thnF (pt.run _ s8 σ8 H8 _ I8 q8) fun b s9 ⟨H9, I9, q9⟩ => ?_
      have fin : ∀ {s' : Shared} {H' : Hp}, Inv (X.blk s3 H3 scope ce fp) ([] ++ pinsAt fp s7.heap) σ8 H' s' → Nx H' → ∃ m, m < n ∧ ∃ i H', Inv (X.blk s3 H3 scope ce fp) [] (wipe σ (own.map (·.2))) H' s' ∧ tn i s'.heap ∧ (∀ b ∈ fp, H' b = none) ∧ W i m H' := fun {s' H'} I' nx => by
        obtain ⟨m', lt, w'⟩ := hNx H' nx
        have pinned : ∀ b ∈ fp, ∀ o, s7.heap.get? b = some o → s'.heap.get? b = some o ∧ H' b = none := fun b hb o e =>
          let z := I'.pin (b, o) (List.mem_append_right _ (List.mem_append_right _ (mem_pinsAt hb e)))
          ⟨z.1, z.2.1⟩
        refine ⟨m', lt, i + 1, H', (I'.unpinned (pins := [])).weak (by rw [← hw8, wipe_length]) (fun j v e => by rw [← hw8] at e; exact (wipe_some e).1), T.keep _ _ _ st7 fun b hb o e => (pinned b hb o e).1, fun b hb => ?_, w'⟩
        obtain ⟨o, e, _⟩ := T.obj _ _ st7 b hb
        exact (pinned b hb o e).2
      cases b with
      | false => exact fin I9 q9
      | true =>
        refine thnF (pe.run _ s9 σ8 H9 _ I9 q9) fun z s10 ⟨yv, H10, I10, r10, a, k, L, ey, hq, hD10, hL, few, nx⟩ => ?_
        subst ey
        obtain rfl : z = Value.ref a := r10
        exact inv_add (X := X.blk s3 H3 scope ce fp) I10 (by show X.A.units + 1 < cLine; omega) hD10 hL hq few fun s11 L' I11 h1 h2 => fin I11 (nx L' h1 h2)
  have done := PpSet.codeAny_compStart_set loop (T.self X.A 0 _ _ _ st4 loop)
  rw [hs4, hce, hcl, hs3] at done
  exact done
end
end DvT

namespace Dv
open PySem PySem.Spec L2 DvT
open PyProof.Rows hiding St
/-- len of a set of tuples -/
def rLenS (P : Program) (w : World) (K : PySem.W.Frag) : List V → Hp → VK → Prop := fun xs H Q => ∃ (D : Addr) (L : List (Addr × List Int)), xs = [.ref D] ∧ H D = some (SetTO P w D L) ∧ (∀ p ∈ L, SqT K H p.1 (p.2.map V.int)) ∧ Q (.int L.length) H
theorem call_lenS {X : Cx} : CallR X (.builtin "len") (rLenS X.prog X.w X.K) := by
  intro pins s σ H xs us Q I r h
  obtain ⟨D, L, rfl, hD, hL, q⟩ := h
  obtain rfl := Vals.ref1 r
  obtain ⟨R0, _⟩ := I.hok D _ hD
  obtain ⟨es, ep, t, R⟩ := SetT0.full R0 fun p hp => I.isT (hL p hp)
  obtain ⟨o, ho, hex, hd⟩ := R.ob
  have e := R.size
  have few := R.few
  refine call_len_set ho hex hd R.fits (by rw [e]; omega) ?_
  rw [e]
  exact ⟨.int (L.length : Nat), H, I.tok _, ⟨_, rfl⟩, q⟩
/-- two lists without doubles, of the same -/
theorem same_len {α : Type} [DecidableEq α] {a b : List α} (ha : a.Nodup) (hb : b.Nodup) (h : ∀ x, x ∈ a ↔ x ∈ b) : a.length = b.length := ((List.perm_ext_iff_of_nodup ha hb).mpr h).length_eq
section
variable {K : PySem.W.Frag} {T : List (Addr × Str)} {G : Dv.Ctx} {te : TE}
/-- a tuple of ints, as data -/
def tupI (l : List Int) : PyData := .tuple (l.map .int)
/-- W, the set at D taken out -/
def Wd.hideS (W : Wd K T) (D : Addr) (hp : ¬ W.X D) (P : Program) (w : World) (L : List (Addr × List Int)) : Wd K T where
  r := W.r
  X := fun a => W.X a ∨ a = D
  J := fun H => W.J H ∧ H D = some (SetTO P w D L)
  ju := fun {H q o} j h n => ⟨W.ju j.1 h fun z => n (.inl z), by rw [upd_ne (show D ≠ q from fun z => n (.inr z.symm))]; exact j.2⟩
  jx := fun {H a} j x => by
    rcases x with x | rfl
    · exact W.jx j.1 x
    · rw [j.2]; simp
  xc := fun {H a q} j x => by
    rcases x with x | rfl
    · exact W.xc j.1 x
    · rw [j.2]
      exact fun z => codeO_set (Option.some.inj z).symm
  jt := fun {H H1} j e t => ⟨W.jt j.1 e t, e _ _ j.2 fun _ w => by unfold SetTO at w; cases w⟩
  jT := fun {H} j => W.jT j.1
  rx := fun {a} e => .inl (W.rx e)
  row := fun {H a} j e => W.row j.1 e
  jw := fun {H a sc i c m i' c' m'} j e h h1 h2 h3 => ⟨W.jw j.1 e h h1 h2 h3, by rw [upd_ne (show D ≠ a from fun z => hp (by rw [z]; exact W.rx e))]; exact j.2⟩
theorem tupI_in {W : Wd K T} {H : Hp} {v : V} {k : List Int} (h : D W H v (tupI k)) : ∃ q, v = .ref q ∧ ¬ W.X q ∧ H q = some (.tup (k.map V.int)) := by
  obtain ⟨q, ys, rfl, nq, hq, al⟩ := D.tup_inv (ds := k.map .int) h
  have e := ints_of al
  subst e
  exact ⟨q, rfl, nq, hq⟩
section
variable {W : Wd K T} {P : Program} {w : World} {Da : Addr} {hp : ¬ W.X Da} {L L' : List (Addr × List Int)} {H H' H1 : Hp}
theorem hideS_out (n : H Da = none) : ∀ a o, H a = some o → ¬ W.X a → ¬ (W.hideS Da hp P w L).X a := fun a o e h z => by
  rcases z with z | rfl
  · exact h z
  · rw [n] at e; cases e
theorem hideS_ex (n : H1 Da = none) (e : Ex (W.hideS Da hp P w L) H1 H') : Ex W H1 H' := ⟨fun a o h t x => e.k a o h t (hideS_out (hp := hp) (P := P) (w := w) (L := L) n a o h x)⟩
theorem ex_hideS (e : Ex W H H') : Ex (W.hideS Da hp P w L) H H' := ⟨fun a o h t x => e.k a o h t fun z => x (.inl z)⟩
end
/-- len({te for g in wi}) -/
theorem e_lenSct {P : Program} {w : World} {wi : TI} {g : TG} {tt : TT} {vs : List Nat} {ds : List PyData} (key : PyData → List Int) {N : Nat} (hi : Iwd K T wi G ds)
    (hs : ∀ d ∈ ds, ∃ G', Tg K T g vs d (wipeG G vs) G' ∧ ET K T tt G' (· = true) ∧ E K T te G' (· = tupI (key d))) (hn : ds.length < 63) (hN : ∀ ks : List (List Int), ks.Nodup → (∀ k, k ∈ ks ↔ k ∈ ds.map key) → ks.length = N) :
    E K T (tCB (rLenS P w K) (tCons (tSct P w K wi g tt te vs) tNil)) G (· = .int N) := fun W σ H s j Q q => hi W σ H s j _ fun J' H1 Gd Y e1 j1 wk hG hY Da hD => by
  have hp : ¬ W.X Da := new_ne j1 hD
  let Pv : Nat → Hp → Prop := fun i H' => ∃ L, Ex W H1 H' ∧ W.J H' ∧ H' Da = some (SetTO P w Da L) ∧ (∀ p ∈ L, ¬ (W.X p.1 ∨ p.1 = Da) ∧ H' p.1 = some (.tup (p.2.map V.int))) ∧ (L.map (·.2)).Nodup ∧ (∀ k, k ∈ L.map (·.2) ↔ k ∈ (ds.take i).map key) ∧ L.length ≤ i
  refine ⟨fun i m H => m = ds.length - i ∧ i ≤ ds.length ∧ Pv i H, ⟨ds.length, by simp, Nat.zero_le _, [], .new hD, j_new j1 hD, upd_same, (fun p hp => by cases hp), List.nodup_nil, (fun k => by simp), Nat.le_refl _⟩, ?_⟩
  rintro i m H' ⟨rfl, hin, L, e, j2, hl, hL, nd, hm, hlen⟩
  have gd := hG W H' (.refl _) e
  by_cases hlt : i < ds.length
  · refine .inr ⟨wk.goes i H' hlt gd, Pv (i + 1), fun H2 p' => ⟨ds.length - (i + 1), by omega, rfl, hlt, p'⟩, fun x H2 y => ?_⟩
    have y := wk.yields i H' x H2 hlt gd y
    have s1 : Sl (W.hideS Da hp P w L) H1 σ G := (s.mono e1).to (hideS_out hD) rfl
    obtain ⟨e3, j3, d, dx, yx⟩ := hY (W.hideS Da hp P w L) i H' x H2 (fun v d h => h.to (hideS_out hD)) hlt (ex_hideS e) ⟨j2, hl⟩ y
    obtain ⟨G', tg, ht, he⟩ := hs d (List.mem_of_getElem? yx)
    refine tg (W.hideS Da hp P w L) (L2.wipe σ vs) H2 x ((s1.mono ((ex_hideS e).trans e3)).wipe vs) dx _ fun σ' s' hl' hk => ⟨(wipe_same hl' hk).trans wipe_wipe, ht _ σ' H2 s' j3 _ fun b H3 e4 j4 hb => ?_⟩
    subst hb
    refine iteT (he _ σ' H3 (s'.mono e4) j4 _ fun yv dy H4 e5 j5 dyv py => ?_)
    subst py
    obtain ⟨a, rfl, na, ha⟩ := tupI_in dyv
    have e35 := (e3.trans e4).trans e5
    have hL4 : ∀ p ∈ L, H4 p.1 = some (.tup (p.2.map V.int)) := fun p hpL => e35.k _ _ (hL p hpL).2 (fun _ z => by cases z) (hL p hpL).1
    have et : (ds.take (i + 1)).map key = (ds.take i).map key ++ [key d] := by
      rw [List.take_add_one, yx, List.map_append]
      rfl
    refine ⟨a, key d, L, rfl, SqT.of ha, j5.2, fun p hpL => SqT.of (hL4 p hpL), by omega, fun L' g1 g2 => ⟨L', Ex.mut (.refl H1) hD (hideS_ex hD ((ex_hideS e).trans e35)), W.ju j5.1 (.inr (.inr (.inl ⟨P, w, L, j5.2⟩))) hp, upd_same, ?_⟩⟩
    by_cases hk : key d ∈ L.map (·.2)
    · obtain rfl := g1 hk
      refine ⟨fun p hpL => ⟨(hL p hpL).1, by rw [upd_ne (fun z => (hL p hpL).1 (.inr z))]; exact hL4 p hpL⟩, nd, fun k => ?_, by omega⟩
      rw [et, List.mem_append, List.mem_singleton, hm k]
      constructor
      · exact .inl
      · rintro (z | rfl)
        · exact z
        · exact (hm _).mp hk
    · have pm := g2 hk
      refine ⟨fun p hpL => ?_, ?_, fun k => ?_, ?_⟩
      · rcases List.mem_cons.mp (pm.mem_iff.mp hpL) with rfl | hpL
        · exact ⟨na, by rw [upd_ne (fun z => na (.inr z))]; exact ha⟩
        · exact ⟨(hL p hpL).1, by rw [upd_ne (fun z => (hL p hpL).1 (.inr z))]; exact hL4 p hpL⟩
      · refine (pm.map (·.2)).nodup_iff.mpr ?_
        exact List.nodup_cons.mpr ⟨hk, nd⟩
      · rw [et, List.mem_append, List.mem_singleton, (pm.map (·.2)).mem_iff]
        show k ∈ key d :: L.map (·.2) ↔ _
        rw [List.mem_cons, hm k]
        constructor
        · rintro (z | z)
          · exact .inr z
          · exact .inl z
        · rintro (z | z)
          · exact .inr z
          · exact .inl z
      · rw [pm.length_eq, List.length_cons]; omega
  · have ei : i = ds.length := by omega
    subst ei
    refine .inl ⟨wk.stops H' gd, Da, L, rfl, hl, fun p hpL => SqT.of (hL p hpL).2, q _ _ H' (e1.trans e) j2 (.int _) ?_⟩
    have z := hN (L.map (·.2)) nd fun k => by rw [hm k, List.take_length]
    rw [List.length_map] at z
    rw [z]
end
end Dv

namespace DvT
open PySem PySem.Spec L2
open PyProof.Rows hiding St
section
theorem atKey_iff {xs : List (List Key × Addr × Value)} {k : List Key} : (atKey xs k).isSome = true ↔ k ∈ xs.map (·.1) := by
  unfold atKey
  rw [Option.isSome_map, List.find?_isSome]
  constructor
  · rintro ⟨x, hx, e⟩
    exact List.mem_map.mpr ⟨x, hx, of_decide_eq_true e⟩
  · intro h
    obtain ⟨x, hx, e⟩ := List.mem_map.mp h
    exact ⟨x, hx, decide_eq_true e⟩
theorem putAt_key {k : List Key} {v : Value} (x : List Key × Addr × Value) : (putAt k v x).1 = x.1 := by
  unfold putAt
  split <;> rfl
theorem stored_keys {xs : List (List Key × Addr × Value)} {k : List Key} {a : Addr} {v : Value} {j : List Key} : j ∈ (storedH xs k a v).map (·.1) ↔ j ∈ xs.map (·.1) ∨ j = k := by
  unfold storedH
  split
  · rename_i h
    rw [List.map_map]
    have e : (fun x : List Key × Addr × Value => x.1) ∘ putAt k v = fun x => x.1 := funext fun x => putAt_key x
    rw [e]
    constructor
    · exact .inl
    · rintro (z | rfl)
      · exact z
      · exact atKey_iff.mp h
  · rw [List.map_append, List.mem_append]
    show _ ∨ j ∈ [k] ↔ _
    rw [List.mem_singleton]
theorem putAll_keys {j : List Key} : ∀ {rest acc : List (List Key × Addr × Value)}, j ∈ (putAll acc rest).map (·.1) ↔ j ∈ acc.map (·.1) ∨ j ∈ rest.map (·.1)
  | [], acc => by
    show j ∈ acc.map (·.1) ↔ _
    simp
  | q :: rest, acc => by
    show j ∈ (putAll (storedH acc q.1 q.2.1 q.2.2) rest).map (·.1) ↔ _
    rw [putAll_keys (rest := rest), stored_keys, List.map_cons, List.mem_cons]
    constructor
    · rintro ((z | z) | z)
      · exact .inl z
      · exact .inr (.inl z)
      · exact .inr (.inr z)
    · rintro (z | z | z)
      · exact .inl (.inl z)
      · exact .inl (.inr z)
      · exact .inr z
theorem putAll_all {p : List Key × Addr × Value → Prop} (hput : ∀ (k : List Key) (v : Value) x, p x → (∃ a, p (k, a, v)) → p (putAt k v x)) : ∀ {rest acc : List (List Key × Addr × Value)}, (∀ x ∈ acc, p x) → (∀ x ∈ rest, p x) → ∀ x ∈ putAll acc rest, p x
  | [], acc, h, _ => h
  | q :: rest, acc, h, h2 => by
    refine putAll_all hput (rest := rest) (acc := storedH acc q.1 q.2.1 q.2.2) (fun x hx => ?_) fun x hx => h2 x (List.mem_cons_of_mem _ hx)
    have hq : p q := h2 q (List.mem_cons_self ..)
    unfold storedH at hx
    split at hx
    · obtain ⟨y, hy, rfl⟩ := List.mem_map.mp hx
      exact hput _ _ y (h y hy) ⟨q.2.1, hq⟩
    · rcases List.mem_append.mp hx with hx | hx
      · exact h x hx
      · rw [List.mem_singleton.mp hx]; exact hq
theorem putAll_len : ∀ {rest acc : List (List Key × Addr × Value)}, (putAll acc rest).length ≤ acc.length + rest.length
  | [], acc => Nat.le_refl _
  | q :: rest, acc => by
    have a := putAll_len (rest := rest) (acc := storedH acc q.1 q.2.1 q.2.2)
    have b := stored_len (xs := acc) (k := q.1) (a := q.2.1) (v := q.2.2)
    show (putAll (storedH acc q.1 q.2.1 q.2.2) rest).length ≤ _
    rw [List.length_cons]
    omega
end
section
variable {X : Cx}
/-- dict(l), l a list of pairs (a tuple, 1) -/
def rDictT (K : PySem.W.Frag) : List V → Hp → VK → Prop := fun xs H Q => ∃ (a : Addr) (qs : List (Addr × Addr × List Key)), xs = [.ref a] ∧ SqL K H a (qs.map fun q => V.ref q.1) ∧ (∀ q ∈ qs, SqT K H q.1 [.ref q.2.1, .int 1] ∧ H q.2.1 = some (.tup (q.2.2.map kV))) ∧
  ∀ (p : Addr) (kvs : List (List Key × V)), H p = none → (kvs.map (·.1)).Nodup → (∀ k, k ∈ kvs.map (·.1) ↔ k ∈ qs.map (·.2.2)) → Q (.ref p) (upd H p (.dT kvs))
theorem prs_of {pins : List (Addr × Obj)} {σ : L2.St} {H : Hp} {s : Shared} (I : Inv X pins σ H s) : ∀ (qs : List (Addr × Addr × List Key)), (∀ q ∈ qs, SqT X.K H q.1 [.ref q.2.1, .int 1] ∧ H q.2.1 = some (.tup (q.2.2.map kV))) →
    ∃ prs : List (List Key × Addr × Value), prs.length = qs.length ∧ (∀ (j : Nat) (p : List Key × Addr × Value), prs[j]? = some p → ∃ q, qs[j]? = some q ∧ IsTup s.heap q.1 #[.ref p.2.1, p.2.2] ∧ IsTupleKey (mixKind X.prog X.w) s.heap p.1 p.2.1) ∧
      (∀ p ∈ prs, (∃ t, p.2.2 = .int 1 t) ∧ H p.2.1 = some (.tup (p.1.map kV))) ∧ prs.map (·.1) = qs.map (·.2.2)
  | [], _ => ⟨[], rfl, fun j p e => by simp at e, fun p hp => (by cases hp), rfl⟩
  | q :: qs, h => by
    obtain ⟨prs, h1, h2, h3, h4⟩ := prs_of I qs fun q hq => h q (List.mem_cons_of_mem _ hq)
    obtain ⟨g1, g2⟩ := h q (List.mem_cons_self ..)
    obtain ⟨its, rv, ht, _⟩ := I.tuple g1
    obtain ⟨u, y, rfl, ru, ry⟩ := vals2 rv
    obtain rfl : u = Value.ref q.2.1 := ru
    obtain ⟨t, rfl⟩ := ry
    refine ⟨(q.2.2, q.2.1, .int 1 t) :: prs, by rw [List.length_cons, List.length_cons, h1], fun j p e => ?_, fun p hp => ?_, by rw [List.map_cons, List.map_cons, h4]⟩
    · cases j with
      | zero =>
        have e' : (q.2.2, q.2.1, Value.int 1 t) = p := Option.some.inj e
        subst e'
        exact ⟨q, rfl, ht, key_of I.hok g2⟩
      | succ j => exact h2 j p (by simpa using e)
    · rcases List.mem_cons.mp hp with rfl | hp
      · exact ⟨⟨t, rfl⟩, g2⟩
      · exact h3 p hp
theorem paired_map {α β γ : Type} {R : β → γ → Prop} (f : α → β) (g : α → γ) : ∀ {xs : List α}, (∀ x ∈ xs, R (f x) (g x)) → Paired R (xs.map f) (xs.map g)
  | [], _ => .nil
  | x :: r, h => .cons (h x (List.mem_cons_self ..)) (paired_map f g fun y hy => h y (List.mem_cons_of_mem _ hy))
theorem call_dictT (hc : X.calm = true) (hu : X.A.units + 64 < cLine) : CallR X (.type "dict") (rDictT X.K) := by
  intro pins s σ H xs us Q I r h
  obtain ⟨a, qs, rfl, hS, hq, q⟩ := h
  obtain rfl := Vals.ref1 r
  obtain ⟨its, rv, pl, hz⟩ := I.list hS
  have ei : its = qs.map fun q => Value.ref q.1 := by
    clear hz pl hS hq q
    induction qs generalizing its with
    | nil => cases rv; rfl
    | cons x r ih =>
      cases rv with
      | cons h t =>
        cases h
        rw [ih _ t, List.map_cons]
  obtain ⟨o, n, ho, hcl, hd, hdat⟩ := pl
  obtain ⟨prs, h1, h2, h3, h4⟩ := prs_of I qs hq
  rw [List.length_map] at hz
  have hln : prs.length ≤ sizeLine := by rw [h1]; exact hz
  refine dict_call (prs := prs) (I.ok.hd hc) (by show X.A.units + 1 + 1 < cLine; omega) ho hcl hd hdat (by rw [List.size_toArray, ei, List.length_map, h1]) hln (fun j p e => ?_) fun h' tk hdk k => ?_
  · obtain ⟨q', e1, e2, e3⟩ := h2 j p e
    exact ⟨q'.1, by rw [List.getElem?_toArray, ei, List.getElem?_map, e1]; rfl, e2, e3⟩
  · obtain ⟨od, es, ep, g1, g2, g3, g4, g5, g6⟩ := hdk
    have hm : (s.heap.objs.size == sysModules) = false := beq_eq_false_iff_ne.mpr (Nat.ne_of_gt I.big)
    have hall : ∀ x ∈ putAll [] prs, (∃ t, x.2.2 = Value.int 1 t) ∧ H x.2.1 = some (.tup (x.1.map kV)) := putAll_all (fun k v x hx ⟨a', ha⟩ => by
      unfold putAt
      split
      · exact ⟨ha.1, hx.2⟩
      · exact hx) (fun x hx => by cases hx) h3
    have nn : H s.heap.objs.size = none := I.hok.fresh (Nat.le_refl _)
    refine ⟨.ref s.heap.objs.size, upd H s.heap.objs.size (.dT ((putAll [] prs).map fun x => (x.1, V.int 1))), I.laid (t' := tk) k (Nat.le_refl _) ⟨?_, hm, putAll [] prs, ?_, od, es, ep, g1, g2, g3, g4, g6⟩, rfl, q _ _ nn ?_ fun k' => ?_⟩
    · rw [List.length_map]
      have := putAll_len (rest := prs) (acc := [])
      rw [List.length_nil] at this
      omega
    · have pm := paired_map (R := fun (p : List Key × V) (q : List Key × Addr × Value) => p.1 = q.1 ∧ upd H s.heap.objs.size (.dT ((putAll [] prs).map fun x => (x.1, V.int 1))) q.2.1 = some (.tup (p.1.map kV)) ∧ RelV p.2 q.2.2) (fun x => (x.1, V.int 1)) (fun x => x) (xs := putAll [] prs) fun x hx => ⟨rfl, by rw [upd_ne (ne_of_none (hall x hx).2 nn)]; exact (hall x hx).2, (hall x hx).1⟩
      rw [List.map_id'] at pm
      exact pm
    · rw [List.map_map]
      exact g6
    · rw [List.map_map]
      show k' ∈ (putAll [] prs).map (·.1) ↔ _
      rw [putAll_keys, ← h4]
      simp
end
end DvT

namespace Dv
open PySem PySem.Spec L2 DvT
open PyProof.Rows hiding St
section
variable {K : PySem.W.Frag} {T : List (Addr × Str)} {G : Dv.Ctx} {te : TE}
def oneD (k : List Int) : PyData := .tuple [tupI k, .int 1]
def kI (k : List Int) : List Key := k.map Sum.inl
theorem kI_v (k : List Int) : (kI k).map kV = k.map V.int := by
  unfold kI
  rw [List.map_map]
  rfl
theorem kI_inj {a b : List Int} (h : kI a = kI b) : a = b := List.map_inj_right (fun _ _ e => Sum.inl.inj e) |>.mp h
theorem ones_of {W : Wd K T} {H : Hp} : ∀ {ks : List (List Int)} {xs : List V}, DAll W H xs (ks.map oneD) → ∃ qs : List (Addr × Addr × List Key), xs = qs.map (fun q => V.ref q.1) ∧ qs.map (·.2.2) = ks.map kI ∧ ∀ q ∈ qs, SqT K H q.1 [.ref q.2.1, .int 1] ∧ H q.2.1 = some (.tup (q.2.2.map kV))
  | [], _, .nil => ⟨[], rfl, rfl, fun q hq => by cases hq⟩
  | k :: ks, _, .cons a t => by
    obtain ⟨qs, e1, e2, e3⟩ := ones_of t
    obtain ⟨p, ys, rfl, np, hp, al⟩ := D.tup_inv (ds := [tupI k, .int 1]) a
    cases al with
    | cons a1 al =>
      cases al with
      | cons a2 al =>
        cases al
        cases a2.int_inv
        obtain ⟨b, rfl, nb, hb⟩ := tupI_in a1
        refine ⟨(p, b, kI k) :: qs, by rw [List.map_cons, e1], by rw [List.map_cons, List.map_cons, e2], fun q hq => ?_⟩
        rcases List.mem_cons.mp hq with rfl | hq
        · exact ⟨SqT.of hp, by rw [kI_v]; exact hb⟩
        · exact e3 q hq
/-- how many unlike ones there are -/
def Unlike (ks : List (List Int)) (N : Nat) : Prop := ∀ js : List (List Int), js.Nodup → (∀ k, k ∈ js ↔ k ∈ ks) → js.length = N
theorem unlike_keys {ks : List (List Int)} {N : Nat} (h : Unlike ks N) {kk : List (List Key)} (nd : kk.Nodup) (hm : ∀ k, k ∈ kk ↔ k ∈ ks.map kI) : kk.length = N := by
  obtain ⟨js, rfl⟩ : ∃ js : List (List Int), kk = js.map kI := by
    have all : ∀ k ∈ kk, ∃ j, k = kI j := fun k hk => by
      obtain ⟨j, _, e⟩ := List.mem_map.mp ((hm k).mp hk)
      exact ⟨j, e.symm⟩
    clear hm nd
    induction kk with
    | nil => exact ⟨[], rfl⟩
    | cons x r ih =>
      obtain ⟨j, rfl⟩ := all x (List.mem_cons_self ..)
      obtain ⟨js, rfl⟩ := ih fun k hk => all k (List.mem_cons_of_mem _ hk)
      exact ⟨j :: js, rfl⟩
  rw [List.length_map]
  refine h js (List.Pairwise.of_map kI (fun a b ne e => ne (congrArg kI e)) nd) fun k => ?_
  constructor
  · intro hk
    obtain ⟨j, hj, e⟩ := List.mem_map.mp ((hm (kI k)).mp (List.mem_map_of_mem hk))
    rw [← kI_inj e]
    exact hj
  · intro hk
    obtain ⟨j, hj, e⟩ := List.mem_map.mp ((hm (kI k)).mpr (List.mem_map_of_mem hk))
    rw [← kI_inj e]
    exact hj
/-- some length stands for how many unlike ones there are -/
theorem unlike_ex (ks : List (List Int)) : ∃ N, Unlike ks N := by
  have nd : ∀ l : List (List Int), ∃ js : List (List Int), js.Nodup ∧ ∀ k, k ∈ js ↔ k ∈ l := fun l => by
    induction l with
    | nil => exact ⟨[], List.nodup_nil, fun k => Iff.rfl⟩
    | cons x r ih =>
      obtain ⟨js, h1, h2⟩ := ih
      by_cases hx : x ∈ js
      · exact ⟨js, h1, fun k => by rw [h2 k, List.mem_cons]; exact ⟨.inr, fun z => z.elim (fun e => by rw [e]; exact (h2 x).mp hx) id⟩⟩
      · exact ⟨x :: js, List.nodup_cons.mpr ⟨hx, h1⟩, fun k => by rw [List.mem_cons, List.mem_cons, h2 k]⟩
  obtain ⟨js, h1, h2⟩ := nd ks
  exact ⟨js.length, fun js' g1 g2 => same_len g1 h1 fun k => by rw [g2 k, h2 k]⟩
theorem e_dict_raw {N : Nat} {ks : List (List Int)} (h : E K T te G (· = .list (ks.map oneD))) (hN : Unlike ks N) (W : Wd K T) (σ : L2.St) (H : Hp) (s : Sl W H σ G) (j : W.J H) (Q : VK)
    (q : ∀ (p : Addr) (kvs : List (List Key × V)) (H' : Hp), Ex W H H' → W.J H' → ¬ W.X p → H' p = some (.dT kvs) → kvs.length = N → Q (.ref p) H') : tCB (rDictT K) (tCons te tNil) σ H Q := h W σ H s j _ fun v d H1 e1 j1 dv p => by
  subst p
  obtain ⟨a, xs, rfl, nx, ha, al⟩ := dv.lst_inv
  obtain ⟨qs, rfl, e2, e3⟩ := ones_of al
  refine ⟨a, qs, rfl, SqL.of ha, e3, fun p kvs hp nd hm => q p kvs _ (e1.trans (.new hp)) (j_new j1 hp) (new_ne j1 hp) upd_same ?_⟩
  have z := unlike_keys hN nd fun k => by rw [hm k, e2]
  rw [List.length_map] at z
  exact z
/-- len(dict([(k, 1), ..])) -/
theorem e_lenDict {N : Nat} {ks : List (List Int)} (h : E K T te G (· = .list (ks.map oneD))) (hN : Unlike ks N) : E K T (tCB rLenT (tCons (tCB (rDictT K) (tCons te tNil)) tNil)) G (· = .int N) := fun W σ H s j Q q =>
  e_dict_raw h hN W σ H s j _ fun p kvs H' e j' np hp hl => ⟨p, kvs, rfl, hp, q _ _ H' e j' (.int _) (by rw [hl])⟩
/-- x = dict([(k, 1), ..]) -/
theorem s_asgDict {i N : Nat} {F : EndG} {ks : List (List Int)} (h : E K T te G (· = .list (ks.map oneD))) (hN : Unlike ks N) (k : F.nx (G.set i (some (.cnt N)))) : S K T (tAsg (tCB (rDictT K) (tCons te tNil)) (gName i)) G F := fun W D' σ H s j ok =>
  e_dict_raw h hN W σ H s j _ fun p kvs H' e j' np hp hl => ok.nx _ H' _ e j' ((s.mono e).set (by rw [← hl]; exact .cnt np hp)) k
theorem e_lenCnt {i n : Nat} (h : G[i]? = some (some (.cnt n)) := by rfl) : E K T (tCB rLenT (tCons (tVar i) tNil)) G (· = .int n) := fun W σ H s j Q q => by
  obtain ⟨v, h1, h2⟩ := s.at_ i _ h
  cases h2 with
  | cnt np hp => exact ⟨_, h1, _, _, rfl, hp, q _ _ H (.refl H) j (.int _) rfl⟩
end
end Dv

/-! rules over HandS: d[k] and k in d of written dicts, first, *others = list -/
namespace L2
open PySem PySem.Spec PyProof.Rows
def KDN (K : PySem.W.Frag) (P : Program) (w : World) (a : Addr) (k : Option Key) (v : V) : Prop :=
  ∃ es n u, K.lookup a = some ⟨.type "dict", none, .dict es n, #[]⟩ ∧ KeysOf (noneKind P w) es ∧ (a == sysModules) = false ∧ findBy (noneKind P w).is es k = some u ∧ RelV v u
def kN : Option Key → V
  | none => .non
  | some k => kV k
def rIxN (K : PySem.W.Frag) (P : Program) (w : World) : R2 := fun x y H Q => ∃ p k v, x = .ref p ∧ y = kN k ∧ KDN K P w p k v ∧ Q v H
def rInKD (K : PySem.W.Frag) (w : World) : R2 := fun x y H Q => ∃ z p v, x = .str z ∧ y = .ref p ∧ (p == sysModules) = false ∧ KDct K w p z v ∧ Q (.bl true) H
section
variable {X : Cx}
theorem kN_is {P : Program} {w : World} {k : Option Key} {v : Value} (r : RelV (kN k) v) : (noneKind P w).is k v = true := by
  match k, r with
  | none, r =>
    obtain rfl : v = Value.none := r
    rfl
  | some k, r => exact kV_is (P := P) (w := w) r
theorem ix_kdn : IxR X (rIxN X.K X.prog X.w) := by
  intro value slice pins s σ H x y v u Q I rx ry h hs
  obtain ⟨p, k, z, rfl, rfl, ⟨es, n, u0, hl, hko, hd, hf, ru⟩, q⟩ := h
  obtain rfl : v = Value.ref p := rx
  have hm : s.heap.MapOf (noneKind X.prog X.w) p (fun k => findBy (noneKind X.prog X.w).is es k) := ⟨_, es, n, I.kIn _ _ hl, ⟨rfl, rfl, rfl⟩, rfl, hko, fun _ => rfl⟩
  exact tail_any hm.typeIs slot_dict_getitem.lookup (wpAny_getItem_of (kN_is ry) hm hf ⟨z, H, I.tok _, ru, q⟩) hs
theorem op_inKD : OpR X (compareOp .In) (rInKD X.K X.w) := by
  intro pins s σ H x y v u Q I rx ry h
  obtain ⟨z, p, v0, rfl, rfl, hd, ⟨es, n, u0, hl, hk, e, ru⟩, q⟩ := h
  obtain ⟨t, rfl⟩ := rx
  obtain rfl : u = Value.ref p := ry
  have hm := PySem.W.mapOf_K (prog := X.prog) (w := X.w) I.kIn hl hk
  refine wpAny_in_of (strKind_is X.prog X.w z t) hd hm ?_
  rw [PySem.W.find_K hl e]
  exact ⟨.bl true, H, I.tok _, rfl, q⟩
/-- (a, *b) = a list of one at least -/
def gStar (K : PySem.W.Frag) (t : TGs) : TG := fun v σ H Q => ∃ a x xs, v = .ref a ∧ SqL K H a (x :: xs) ∧ xs.length ≤ 1000 ∧ ∀ p, H p = none → t [x, .ref p] σ (upd H p (.lst xs)) Q
theorem pg_star {es es0 : List Expr} {k : Nat} {t : TGs} {pos : Pos} (hc : X.calm = true) (h : PGs X es0 t)
    (hn : (assignEach es X.env).length = 2 := by rfl) (hst : (assignEach es X.env).findIdx? (·.1) = some 1 := by rfl) (hm : (assignEach es X.env).map (·.2) = (assignEach es0 X.env).map (·.2) := by rfl) : PG X (.Tuple es k pos) (gStar X.K t) := by
  refine ⟨fun pins s σ H v u Q I r hw => ?_⟩
  obtain ⟨a, x, xs, e1, hq, hxs, hw⟩ := hw
  subst e1
  cases r
  obtain ⟨its0, rv, pl, hz⟩ := I.list hq
  cases rv with
  | @cons _ u0 _ its ra rv =>
  have hl : s.heap.IsList a (u0 :: its).toArray := by
    obtain ⟨o, m, e, c, d, q⟩ := pl
    exact ⟨o, e, c, m, q⟩
  have hlen := rv.length
  rw [PyProof.Rows.assign_Tuple]
  refine wpAny_bind (wpAny_standAt ?_)
  unfold unpack
  rw [hn, hst, hm]
  have hh := I.ok.hd hc
  have hlt : a ≠ s.heap.objs.size := by obtain ⟨o, ho, _⟩ := hl; exact Nat.ne_of_lt (Heap.lt_size ho)
  refine wpAny_bind (wpAny_holding ?_)
  unfold unpackItems
  refine wpAny_bind ?_
  unfold notIterableAtAll
  refine wpAny_bind (wpAny_specialOf hl.typeIs slot_list_iter.lookup ?_)
  refine wpAny_pure ?_
  simp only [Bool.false_eq_true, if_false]
  refine wpAny_bind (wpAny_holding (wpAny_pyIter_list hl ?_))
  refine wpAny_bind (wpAny_holding (PySem.W.kun_draw hlt 1 0 _ _ ⟨_, Heap.get?_push_size _ rfl, rfl, rfl⟩ (hl.push _) (by simp) fun h₁ hit₁ hs₁ => ?_))
  have hl₁ : h₁.IsList a (u0 :: its).toArray := (hl.push _).extBut hs₁.extBut hlt
  rw [Nat.zero_add] at hit₁
  have hit₁' := hit₁
  obtain ⟨oi, hoi, _⟩ := hit₁'
  have hl₁' := hl₁
  obtain ⟨ol, hol, _⟩ := hl₁'
  rw [List.drop_zero]
  rw [if_neg (show ¬ ((List.take 1 (u0 :: its).toArray.toList).length < 1) by simp)]
  have hsz : (u0 :: its).toArray.size ≤ 1001 := by
    show (u0 :: its).length ≤ 1001
    rw [List.length_cons]
    omega
  refine wpAny_bind (wpAny_holding (PySem.W.kun_collect (s := { s with heap := h₁ }) (T := "list_iterator") (.inr (.inr (.inl rfl))) (Walks.list (A := X.A.in1) hh s.heap.objs.size a hlt (u0 :: its).toArray) (fun j u st => st.1.typeIs) (k := 1) (by simp) ⟨hit₁, hl₁⟩ (Heap.lt_size hoi) (Heap.lt_size hol) (fun h₂ tk hk => ?_) (by rw [sizeLine_eq]; omega)))
  have hd : (u0 :: its).toArray.toList.drop 1 = its := rfl
  rw [hd]
  have ht : (u0 :: its).toArray.toList.take 1 = [u0] := rfl
  show wpAny _ _ (if its.length < 2 - 1 - 1 then _ else _) _ _ _
  rw [if_neg (by omega)]
  have he : Heap.ExtBut s.heap.objs.size s.heap h₂ := fun b o hb e => hk b o hb (hs₁.extBut b o hb (Heap.get?_push_of_some _ e))
  have I2 : Inv X pins σ H { s with heap := h₂, toks := tk } := I.kept (t' := tk) fun b o e => he b o (Nat.ne_of_lt (Heap.lt_size e)) e
  show wpAny _ _ (newList (its.take its.length) >>= fun d => pure ([u0] ++ [d] ++ its.drop its.length)) _ _ _
  rw [List.take_length, List.drop_length]
  refine wpAny_bind (wpAny_newObj_type (wpAny_pure ?_))
  have hp : H h₂.objs.size = none := I2.hok.fresh (Nat.le_refl _)
  have J : Inv X pins σ (upd H h₂.objs.size (.lst xs)) { s with heap := h₂.push { cls := .type "list", data := .seq its.toArray }, toks := tk } :=
    I2.laid (t' := tk) (a := h₂.objs.size) (o := .lst xs) (fun b o e => Heap.get?_push_of_some _ e) (Nat.le_refl _) (show ObjOk X.prog X.w _ _ _ (.lst xs) from ⟨by rw [sizeLine_eq]; omega, its, _, rv, Heap.get?_push_size _ rfl⟩)
  have rr : Vals [x, V.ref h₂.objs.size] [u0, Value.ref h₂.objs.size] := .cons ra (.cons rfl .nil)
  exact h.run pins _ σ (upd H h₂.objs.size (.lst xs)) [x, .ref h₂.objs.size] _ Q J rr (hw h₂.objs.size hp)
end
end L2

namespace Dv
open PySem PySem.Spec L2
open PyProof.Rows hiding St
section
variable {K : PySem.W.Frag} {T : List (Addr × Str)} {W W2 : Wd K T} {G G' : Ctx} {ta tb tc te to : TE} {tt t u : TS} {F : EndG}
/-! ### texts -/
abbrev rStrI : List V → Hp → VK → Prop := fun xs H Q => ∃ i : Int, xs = [.int i] ∧ i.natAbs.log2 < 1920 ∧ Q (.str (toString i)) H
theorem e_strI {tr : TA} {i : Int} (h : EA K T tr G (· = [.dat (.int i)])) (hi : i.natAbs.log2 < 1920) : E K T (tCB rStrI tr) G (· = .str (toString i)) := e_cb h fun W H vs j dv Q q => by
  obtain ⟨v, rfl, dw⟩ := one_of dv
  cases dw.int_inv
  exact ⟨i, rfl, hi, q _ _ H (.refl H) j (.str _) rfl⟩
abbrev rIntS : List V → Hp → VK → Prop := fun xs H Q => ∃ a n, xs = [.str a] ∧ PySem.intText? a = some n ∧ a.length ≤ 640 ∧ Q (.int n) H
theorem D.str_inv {H : Hp} {v : V} {x : Str} (h : D W H v (.str x)) : v = .str x := by cases h; rfl
theorem e_intS {tr : TA} {a : Str} {n : Int} (h : EA K T tr G (· = [.dat (.str a)])) (hn : PySem.intText? a = some n) (hl : a.length ≤ 640) : E K T (tCB rIntS tr) G (· = .int n) := e_cb h fun W H vs j dv Q q => by
  obtain ⟨v, rfl, dw⟩ := one_of dv
  cases dw.str_inv
  exact ⟨a, n, rfl, hn, hl, q _ _ H (.refl H) j (.int _) rfl⟩
abbrev rLenStr : List V → Hp → VK → Prop := fun xs H Q => ∃ z : Str, xs = [.str z] ∧ z.length ≤ sizeLine ∧ Q (.int z.length) H
theorem e_lenStr {tr : TA} {a : Str} (h : EA K T tr G (· = [.dat (.str a)])) (hl : a.length ≤ sizeLine) : E K T (tCB rLenStr tr) G (· = .int a.length) := e_cb h fun W H vs j dv Q q => by
  obtain ⟨v, rfl, dw⟩ := one_of dv
  cases dw.str_inv
  exact ⟨a, rfl, hl, q _ _ H (.refl H) j (.int _) rfl⟩
theorem strs_of {H : Hp} : ∀ {ys : List Str} {xs : List V}, DAll W H xs (ys.map .str) → xs = ys.map V.str
  | [], _, .nil => rfl
  | b :: bs, _, .cons a t => by rw [a.str_inv, strs_of t]; rfl
theorem all_strs {H : Hp} : ∀ (ys : List Str), DAll W H (ys.map V.str) (ys.map .str)
  | [] => .nil
  | b :: bs => .cons (.str b) (all_strs bs)
abbrev rJoin (K : PySem.W.Frag) : V → List V → Hp → VK → Prop := fun x xs H Q => ∃ a p, ∃ ys : List Str, x = .str a ∧ xs = [.ref p] ∧ (SqL K H p (ys.map V.str) ∨ SqT K H p (ys.map V.str)) ∧ (ys.map (·.length)).sum + ys.length * a.length ≤ 16777216 ∧ Q (.str (Txt.join a ys)) H
theorem e_join {sep : Str} {ys : List Str} (ho : E K T to G (· = .str sep)) (he : E K T te G (· = .list (ys.map .str))) (hl : (ys.map (·.length)).sum + ys.length * sep.length ≤ 16777216) : E K T (tM1 (rJoin K) to te) G (· = .str (Txt.join sep ys)) := fun W σ H s j Q q =>
  ho W σ H s j _ fun x d H1 e1 j1 dx px => by
    subst px
    refine ⟨⟨sep, dx.str_inv⟩, he W σ H1 (s.mono e1) j1 _ fun y d2 H2 e2 j2 dy py => ?_⟩
    subst py
    obtain ⟨a, xs, rfl, nx, ha, al⟩ := dy.lst_inv
    have e := strs_of al
    subst e
    exact ⟨sep, a, ys, dx.str_inv, rfl, .inl (SqL.of ha), hl, q _ _ H2 (e1.trans e2) j2 (.str _) rfl⟩
abbrev rSplit : V → List V → Hp → VK → Prop := fun x xs H Q => ∃ a b, x = .str a ∧ xs = [.str b] ∧ (b.length == 0) = false ∧ a.length + 2 ≤ sizeLine ∧ rNewStrs (Txt.split a b) H Q
theorem el_split {a b : Str} (ho : E K T to G (· = .str a)) (he : E K T te G (· = .str b)) (hb : (b.length == 0) = false) (hl : a.length + 2 ≤ sizeLine) : EL K T (tM1 rSplit to te) G (· = (Txt.split a b).map .str) := fun W σ H s j Q q =>
  ho W σ H s j _ fun x d H1 e1 j1 dx px => by
    subst px
    refine ⟨⟨a, dx.str_inv⟩, he W σ H1 (s.mono e1) j1 _ fun y d2 H2 e2 j2 dy py => ?_⟩
    subst py
    refine ⟨a, b, dx.str_inv, by rw [dy.str_inv], hb, hl, fun p hp => ?_⟩
    exact q p _ _ _ ((Fr.new hp).pre (e1.trans e2)) (j_new j2 hp) (new_ne j2 hp) upd_same (all_strs _) rfl
abbrev rAddS : R2 := fun x y H Q => ∃ i j, x = .str i ∧ y = .str j ∧ i.length + j.length ≤ sizeLine ∧ Q (.str (i ++ j)) H
theorem e_addS {a b : Str} (ha : E K T ta G (· = .str a)) (hb : E K T tb G (· = .str b)) (hl : a.length + b.length ≤ sizeLine) : E K T (tOp rAddS ta tb) G (· = .str (a ++ b)) := e_op ha hb fun W H x y d e jh dx dy px py Q q => by
  subst px py
  exact ⟨a, b, dx.str_inv, dy.str_inv, hl, q _ _ H (.refl H) jh (.str _) rfl⟩
/-- f"..{i}" -/
theorem e_fstr {a : Str} {i : Int} (h : E K T te G (· = .int i)) (hi : i.natAbs.log2 < 1920) (hl : (Str.empty ++ a).length ≤ sizeLine) (hl2 : ((Str.empty ++ a) ++ (toString i : String)).length ≤ sizeLine) :
    E K T (fun σ H Q => tJs [tC (.str a), tFmt te] Str.empty σ H fun out H1 => Q (.str out) H1) G (· = .str ((Str.empty ++ a) ++ (toString i : String))) := fun W σ H s j Q q => by
  refine ⟨a, rfl, hl, h W σ H s j _ fun v d H1 e1 j1 dv pv => ?_⟩
  subst pv
  refine .inr ⟨i, dv.int_inv, hi, _, rfl, hl2, q _ _ H1 e1 j1 (.str _) rfl⟩
/-- l[k:] -/
theorem el_slFrom {ds : List PyData} {k : Nat} (ha : E K T ta G (· = .list ds)) (hb : E K T tb G (· = .int k)) : EL K T (tSl (rSlL K) ta (tPart tb) tNoPart) G (· = ds.drop k) := fun W σ H s j Q q => ha W σ H s j _ fun v d H1 e1 j1 dv pv => hb W σ H1 (s.mono e1) j1 _ fun u d2 H2 e2 j2 du pu => by
  subst pv pu
  obtain ⟨a, xs, rfl, nx, ha, al⟩ := (dv.mono e2).lst_inv
  have hl := al.length
  have hs : HT.sIx xs.length 0 (some (k : Int)) = min k xs.length := HT.sIx_nat _ _ _
  refine ⟨k, du.int_inv, a, xs, rfl, SqL.of ha, fun p hp => ?_⟩
  have ec : cutV xs (some (k : Int)) none = xs.drop k := by
    unfold cutV
    rw [hs, HT.sIx_none]
    rcases Nat.le_total k xs.length with z | z
    · rw [Nat.min_eq_left z, List.take_of_length_le (by rw [List.length_drop]; exact Nat.le_refl _)]
    · rw [Nat.min_eq_right z, List.drop_of_length_le (Nat.le_refl _), List.drop_of_length_le z, List.take_nil]
  rw [ec]
  exact q p _ _ _ ((Fr.new hp).pre (e1.trans e2)) (j_new j2 hp) (new_ne j2 hp) upd_same ((al.drop k).mono (.new hp)) rfl
/-- D[k], D a written dict -/
theorem e_ixN {P : Program} {w : World} {A : Addr} {d : PyData} {k : Option Key} {x : Str} (hb : E K T tb G (· = d)) (hd : ∀ (W : Wd K T) H v, D W H v d → v = kN k) (hk : KDN K P w A k (.str x)) : E K T (tOp (rIxN K P w) (tC (.ref A)) tb) G (· = .str x) := fun W σ H s j Q q => hb W σ H s j _ fun v d2 H1 e1 j1 dv pv => by
  subst pv
  exact ⟨A, k, .str x, rfl, hd W H1 v dv, hk, q _ _ H1 e1 j1 (.str _) rfl⟩
theorem e_ixKD {w : World} {A : Addr} {x : Str} {v : V} {d : PyData} (hb : E K T tb G (· = .str x)) (hv : ∀ (W : Wd K T) H, D W H v d) (hk : KDct K w A x v) : E K T (tOp (rIxD K w) (tC (.ref A)) tb) G (· = d) := fun W σ H s j Q q => hb W σ H s j _ fun u d2 H1 e1 j1 dv pv => by
  subst pv
  exact ⟨A, x, v, rfl, dv.str_inv, hk, q _ _ H1 e1 j1 (hv W H1) rfl⟩
theorem e_inKD {w : World} {A : Addr} {x : Str} {v : V} (ha : E K T ta G (· = .str x)) (hA : (A == sysModules) = false) (hk : KDct K w A x v) : E K T (tOp (rInKD K w) ta (tC (.ref A))) G (· = .bool true) := fun W σ H s j Q q => ha W σ H s j _ fun u d2 H1 e1 j1 dv pv => by
  subst pv
  exact ⟨x, A, v, dv.str_inv, rfl, hA, hk, q _ _ H1 e1 j1 (.bl true) rfl⟩
abbrev rInSg : R2 := fun x y H Q => ∃ (c : Nat) (z : Str), x = .str ⟨#[c]⟩ ∧ y = .str z ∧ Q (.bl (decide (c ∈ z.cps.toList))) H
theorem e_inSg {c : Nat} {z : Str} (ha : E K T ta G (· = .str ⟨#[c]⟩)) (hb : E K T tb G (· = .str z)) : E K T (tOp rInSg ta tb) G (· = .bool (decide (c ∈ z.cps.toList))) := e_op ha hb fun W H x y d e jh dx dy px py Q q => by
  subst px py
  exact ⟨c, z, dx.str_inv, dy.str_inv, q _ _ H (.refl H) jh (.bl _) rfl⟩
abbrev rItS : R2 := fun x y H Q => ∃ (z : Str) (i : Int) (c : Nat), x = .str z ∧ y = .int i ∧ 0 ≤ i ∧ i < 2 ^ 63 ∧ i < z.length ∧ z.cps[i.toNat]? = some c ∧ Q (.str ⟨#[c]⟩) H
theorem e_itS {z : Str} {i c : Nat} (ha : E K T ta G (· = .str z)) (hb : E K T tb G (· = .int i)) (hi : i < 1000) (h : z.cps[i]? = some c) : E K T (tOp rItS ta tb) G (· = .str ⟨#[c]⟩) := e_op ha hb fun W H x y d e jh dx dy px py Q q => by
  subst px py
  have hl : i < z.cps.size := (Array.getElem?_eq_some_iff.mp h).1
  have hl2 : i < z.length := hl
  exact ⟨z, i, c, dx.str_inv, dy.int_inv, by omega, by omega, by omega, by simpa using h, q _ _ H (.refl H) jh (.str _) rfl⟩
/-- the signs of a text -/
def sgD (z : Str) : List PyData := z.cps.toList.map fun c => .str ⟨#[c]⟩
theorem i_strD {z : Str} (h : E K T te G (· = .str z)) : Iwd K T (iStr te) G (sgD z) := fun W σ H s j R r => h W σ H s j _ fun v d H1 e1 j1 dv p => by
  subst p
  refine ⟨z, dv.str_inv, ?_⟩
  have w := walk_str (z := z)
  have hl : (sgD z).length = z.cps.size := by unfold sgD; rw [List.length_map, Array.length_toList]
  rw [hl] at r
  refine r (Its z) H1 _ _ e1 j1 w (fun W2 H2 c e2 => trivial) fun W2 i H2 x H3 c hi e2 j2 y => ?_
  obtain ⟨rfl, c, hc, rfl⟩ := y
  refine ⟨.refl _, j2, _, .str _, ?_⟩
  show (sgD z)[i]? = some (.str ⟨#[c]⟩)
  unfold sgD
  rw [List.getElem?_map, Array.getElem?_toList, hc]
  rfl
/-! ### a list that grows: x = [..]; for ..: x.append(e) -/
/-- one turn: the statement puts one behind the list at p -/
def SA (K : PySem.W.Frag) (T : List (Addr × Str)) (t : TS) (p : Addr) (G : Ctx) (R : Ctx → PyData → Prop) : Prop := ∀ (W : Wd K T) (hp : ¬ W.X p) (xs : List V) (D' : Ends) (σ : L2.St) (H : Hp), xs.length ≤ 200000 → Sl (W.hide p hp xs) H σ G → (W.hide p hp xs).J H →
  (∀ σ' H1 G3 v y, Ex (W.hide p hp xs) H H1 → (W.hide p hp xs).J H1 → Sl (W.hide p hp xs) H1 σ' G3 → D (W.hide p hp xs) H1 v y → R G3 y → D'.nx σ' (upd H1 p (.lst (xs ++ [v])))) → t D' σ H
theorem sa_app {k : Nat} {p : Addr} {P : PyData → Prop} {R : Ctx → PyData → Prop} (hg : G[k]? = some (some (.fn p))) (h : E K T te G P) (r : ∀ d, P d → R G d) : SA K T (tDrop (tBM K "list" rAppend (tVar k) (tCons te tNil))) p G R := fun W hp xs D' σ H hl s j q => by
  obtain ⟨v0, h1, h2⟩ := s.at_ k _ hg
  cases h2 with
  | fn =>
    refine ⟨.ref p, h1, Or.inl ⟨rfl, xs, SqL.of j.2⟩, ?_⟩
    refine h (W.hide p hp xs) σ H s j _ fun v d H1 e1 j1 dv pv => ?_
    exact ⟨p, xs, v, rfl, rfl, j1.2, Nat.lt_of_le_of_lt hl (by decide), q σ H1 G v d e1 j1 (s.mono e1) dv (r d pv)⟩
theorem sa_seq {p : Addr} {R : Ctx → PyData → Prop} (h : S K T t G { nx := fun G' => SA K T u p G' R }) : SA K T (tSeq t u) p G R := fun W hp xs D' σ H hl s j q =>
  h (W.hide p hp xs) { D' with nx := u D' } σ H s j ⟨fun σ' H' G' e j' s' f => f W hp xs D' σ' H' hl s' j' fun σ2 H2 G3 v y e2 j2 s2 dv r => q σ2 H2 G3 v y (e.trans e2) j2 s2 dv r,
    fun _ _ _ _ _ _ f => f.elim, fun _ _ _ _ _ _ _ _ _ f => f.elim, fun _ _ _ _ _ _ f => f.elim, fun _ _ _ _ _ _ f => f.elim⟩
theorem sl_put {H : Hp} {σ : L2.St} {k : Nat} {v : V} {o : Ob} (h : Sl W H σ G) (hv : σ[k]? = some (some v)) (ho : OD W H v o) : Sl W H σ (G.set k (some o)) := ⟨by simpa using h.len, fun j u e => by
  by_cases hj : k = j
  · subst hj
    by_cases hl : k < G.length
    · rw [List.getElem?_set_self hl] at e
      cases e
      exact ⟨v, hv, ho⟩
    · rw [List.getElem?_eq_none (by simpa using hl)] at e
      cases e
  · rw [List.getElem?_set_ne hj] at e
    exact h.at_ j u e⟩
theorem flat_to {H : Hp} {v : V} {d : PyData} (f : flatD d = true) (h : D W H v d) : D W2 H v d := by
  cases h with
  | non => exact .non
  | bl b => exact .bl b
  | int i => exact .int i
  | str x => exact .str x
  | lst => cases f
  | tup => cases f
theorem flats_to {H : Hp} : ∀ {vs : List V} {ds : List PyData}, ds.all flatD = true → DAll W H vs ds → DAll W2 H vs ds
  | _, _, _, .nil => .nil
  | _, _, f, .cons a t => by
    rw [List.all_cons, Bool.and_eq_true] at f
    exact .cons (flat_to f.1 a) (flats_to f.2 t)
theorem s_acc {k : Nat} {tl : TE} {wi : TI} {g : TG} {tb : TS} {vs : List Nat} {n : Nat} {yd : Nat → PyData → Prop} {ds0 : List PyData} (I : Nat → List PyData → Addr → Ctx → Prop) (hk : k < G.length) (hl : EL K T tl G (· = ds0)) (hi : ∀ p, Iw K T wi (G.set k (some (.fn p))) n yd)
    (h0 : ∀ p, I 0 ds0 p (G.set k (some (.fn p)))) (hs : ∀ p i d acc G', i < n → yd i d → I i acc p G' → ∃ G2, Tg K T g vs d G' G2 ∧ SA K T tb p G2 (fun G3 y => I (i + 1) (acc ++ [y]) p G3))
    (hfl : ds0.all flatD = true) (hn : ds0.length + n ≤ 100000) (hd : ∀ p acc G', I n acc p G' → G'[k]? = some (some (.fn p)) ∧ S K T u (G'.set k (some (.dat (.list acc)))) F) : S K T (tSeq (tAsg tl (gName k)) (tSeq (tFor wi g tb) u)) G F := fun W D' σ H s j ok =>
  hl W σ H s j _ fun p xs ds H1 f1 j1 hp h1 al1 ed => by
    subst ed
    obtain ⟨H0, ea, na, eb⟩ := f1
    have s0 : Sl (W.hide p hp xs) H0 σ G := (s.mono ea).to (hide_out na) rfl
    have s1 : Sl (W.hide p hp xs) H1 (σ.set k (some (.ref p))) (G.set k (some (.fn p))) := (s0.mono (ex_hide eb)).set .fn
    have hlen0 : xs.length = ds.length := al1.length
    have hxs : DAll (W.hide p hp xs) H1 xs ds := flats_to hfl al1
    refine hi p (W.hide p hp xs) (σ.set k (some (.ref p))) H1 s1 ⟨j1, h1⟩ _ fun J' H2 Gd Y e2 j2 w hG hY => ?_
    have cp : ∀ ys, Cp (W.hide p hp xs) (W.hide p hp ys) H2 := fun ys v d h => D.to (W := W.hide p hp xs) (W2 := W.hide p hp ys) (fun _ _ _ n => n) h
    have ex : ∀ {ys zs : List V} {A B : Hp}, Ex (W.hide p hp ys) A B → Ex (W.hide p hp zs) A B := fun e => ⟨e.k⟩
    refine for_it w (fun i σ' H' => ∃ ys acc G', (W.hide p hp ys).J H' ∧ Ex (W.hide p hp xs) H2 H' ∧ DAll (W.hide p hp ys) H' ys acc ∧ Sl (W.hide p hp ys) H' σ' G' ∧ I i acc p G' ∧ ys.length ≤ xs.length + i)
      ⟨xs, ds, _, j2, .refl _, hxs.mono e2, s1.mono e2, h0 p, Nat.le_refl _⟩ (fun i σ' H' _ ⟨ys, acc, G', jy, ez, al, sl, hI, hlen⟩ => hG (W.hide p hp ys) H' (cp ys) (ex ez)) (fun i x σ' H' H3 hin ⟨ys, acc, G', jy, ez, al, sl, hI, hlen⟩ y => ?_) fun σ' H' ⟨ys, acc, G', jy, ez, al, sl, hI, hlen⟩ => ?_
    · obtain ⟨e3, j3, d, dx, yx⟩ := hY (W.hide p hp ys) i H' x H3 (cp ys) hin (ex ez) jy y
      obtain ⟨G2, tg, hb⟩ := hs p i d acc G' hin yx hI
      refine tg (W.hide p hp ys) σ' H3 x (sl.mono e3) dx _ fun σ3 s3 _ _ => hb W hp ys _ σ3 H3 (by omega) s3 j3 fun σ4 H4 G3 v yv e4 j4 s4 dv rv => ?_
      have eo : Ex (W.hide p hp ys) H4 (upd H4 p (.lst (ys ++ [v]))) := Ex.out (Ex.refl _) (show (W.hide p hp ys).X p from Or.inr rfl)
      refine ⟨ys ++ [v], acc ++ [yv], G3, ⟨W.ju j4.1 (.inr (.inl ⟨ys, j4.2⟩)) hp, upd_same⟩, ex (((ex ez : Ex (W.hide p hp ys) H2 H').trans (e3.trans e4)).trans eo), ?_, ?_, rv, by rw [List.length_append, List.length_singleton]; omega⟩
      · exact hide_all (ys := ys) ((((al.mono e3).mono e4).append (.one dv)).mono eo)
      · exact Sl.to (W := W.hide p hp ys) (W2 := W.hide p hp (ys ++ [v])) (fun _ _ _ n => n) rfl (s4.mono eo)
    · obtain ⟨hgk, hu⟩ := hd p acc G' hI
      have sW : Sl W H' σ' G' := Sl.to (W := W.hide p hp ys) (W2 := W) (fun _ _ _ n z => n (Or.inl z)) rfl sl
      obtain ⟨v, hv, hod⟩ := sW.at_ k _ hgk
      cases hod with
      | fn =>
        have eW : Ex W H H' := ea.trans (hide_ex (hp := hp) (ys := xs) na (((ex_hide eb).trans e2).trans ez))
        exact hu W D' σ' H' (sl_put sW hv (.dat (.lst hp jy.2 (DAll.to (W := W.hide p hp ys) (W2 := W) (fun _ _ _ n z => n (Or.inl z)) al)))) jy.1 (ok.mono eW)
end
end Dv

/-! an own exception over ValueError, any number of own classes between: its __init__ says super().__init__(f"..{x}") and self.f = x -/
namespace PySem
namespace XIn
open PySem.W PySem.Calls PyProof.Rows PySem.HandSPX
def iA (nm : Str) (p1 p2 : Pos) : Arguments := { posonlyargs := [], args := [{ arg := "self", annotation := none, pos := p1 }, { arg := nm, annotation := none, pos := p2 }], vararg := none, kwonlyargs := [], kw_defaults := [], kwarg := none, defaults := [] }
def iB (nm fld txt : Str) (j : Tok) (q1 q2 q3 q4 q5 q6 q7 q8 q9 q10 q11 q12 q13 : Pos) : List Stmt :=
  [.Expr (.Call (.Attribute (.Call (.Name "super" q1) [] [] q2) "__init__" q3) [.JoinedStr [.Constant (.str txt) j q4, .FormattedValue (.Name nm q5) (-1) none q6] q7] [] q8) q9,
   .Assign [.Attribute (.Name "self" q10) fld q11] (.Name nm q12) q13]
def iS (nm : Str) : Scope := { kind := .function, names := [(PySem.Str.ofString "self", .local), (nm, .local), (PySem.Str.ofString "__class__", .free), (PySem.Str.ofString "super", .globalImplicit)], isGenerator := false, isCoroutine := false, more := [] }
/-- what the written part says of the class at C and of its __init__ at fI; its cell cc; its code object cda -/
structure OwnI (P : Program) (K : Frag) (mg : Str → Option Value) (C fI : Addr) (fd : FuncData) (nm fld txt : Str) : Prop where
  cls : ∃ n q N bs bm sn sub ab col dd k0 k1 k2 k3 k5, K.lookup C = some (excClassObj n q C N bs bm true sn sub ab col dd k0 k1 k2 k3 k5 "ValueError.__new__") ∧ refsVE bm = true ∧ alongIn K "__init__" bm = some (some (.builtin "ValueError.__init__"))
  ini : excInitIn K C veTail "ValueError.__new__" = true
  sa : findIn K (.ref C) "__setattr__" = some (some (.builtin "object.__setattr__"))
  noN : findIn K (.ref C) fld = some none
  fn : ∃ (oc : Value) (od : Option Addr) (kV doc pm : Value) (an : Option Addr) (ct : Value) (osl : Array (Option Value)) (cc cda : Addr) (qual : Str) (j : Tok) (p1 p2 q1 q2 q3 q4 q5 q6 q7 q8 q9 q10 q11 q12 q13 : Pos),
    fd = fnX "__init__" qual (iA nm p1 p2) (iB nm fld txt j q1 q2 q3 q4 q5 q6 q7 q8 q9 q10 q11 q12 q13) (iS nm) [("__class__", cc)] .none kV doc pm an (.ref cda) ct ∧
    (q3.endLine == q8.line) = true ∧ K.lookup fI = some ⟨oc, od, .func fd, osl⟩ ∧ codeIn K (.ref cda) qual = true ∧
    (∃ (ccl : Value) (cdd : Option Addr) (vs : Array Value) (ccs : Array (Option Value)) (file : Str) (tf : Tok), K.lookup cda = some ⟨ccl, cdd, .fields vs, ccs⟩ ∧ vs[2]? = some (.str file tf) ∧ ((P.main.file : Str) == file) = true) ∧
    (∃ (cl : Value) (cld : Option Addr) (csl : Array (Option Value)), K.lookup cc = some ⟨cl, cld, .cell (some (.ref C)), csl⟩)
  top : (P.main.scope.names.lookup ("super" : Str)).isSome = false
  sup : mg "super" = none
  opq : nsIn K cStatics "thirdparty.any" = some none
  self : nm ≠ "self"
  nmC : nm ≠ "__class__"
  nmS : nm ≠ "super"
  nmD : (nm == ("__debug__" : Str)) = false
  tsz : (Str.empty ++ txt).length ≤ 1000
section
variable {prog : Program} {w : World} {A : Around} {E : Value → Shared → Prop} {R : Result → Shared → Prop} {s : Shared} {K : Frag} {mg : Str → Option Value} {C fI : Addr} {fd : FuncData} {nm fld txt : Str} {base : Heap}
/-- what __init__ leaves of a fresh exception at x -/
structure InitEnd (h h' : Heap) (x C dx t1 : Addr) (fld : Str) (v : Value) : Prop where
  keep : ∀ b o, b ≠ x → h.get? b = some o → h'.get? b = some o
  obj : h'.get? x = some { cls := .ref C, dict := some dx, data := .fields #[.ref t1, .none, .none, .none, .bool false, .none] }
  dbig : h.objs.size ≤ dx
  dne : dx ≠ x
  ns : h'.Ns1 dx (fun y => if y = fld then some v else none)
theorem init_run (T : OwnI prog K mg C fI fd nm fld txt) {x t0 : Addr} {i : Int} {tk : Tok} {args : Args} (X : K.In s.heap) (hm : L2.Mod K mg base) (hb : ∀ b o, base.get? b = some o → s.heap.get? b = some o) (hlim : s.heap.NoLimit) (hx : s.heap.get? x = some (excO C t0)) (hnx : K.lookup x = none) (hroom : A.depth < recursionLimit)
    (hbind : BindsTo s fd args [("self", .ref x), (nm, .int i tk)]) (hi : i.natAbs.log2 < 1920) (hi2 : ((Str.empty ++ txt) ++ (toString i : String)).length ≤ sizeLine)
    (hq : ∀ h' tk' dx t1, InitEnd s.heap h' x C dx t1 fld (.int i tk) → R (.ok (.ret .none)) { s with heap := h', toks := tk' }) :
    codeAny (model prog w) A (.call (.ref fI) args) R s := by
  obtain ⟨oc, od, kV, doc, pm, an, ct, osl, cc, cda, qual, j, p1, p2, q1, q2, q3, q4, q5, q6, q7, q8, q9, q10, q11, q12, q13, rfl, hln, lk, hcd, ⟨ccl, cdd, vs, ccs, file, tf, lcode, hvs, hfile⟩, ⟨cl, cld, csl, lcell⟩⟩ := T.fn
  obtain ⟨n, q, N, bs, bm, sn, sub, ab, col, dd, k0, k1, k2, k3, k5, hC, hbm, hal⟩ := T.cls
  have hcl : clsIn K C = some { name := n, bases := bs, mro := .ref C :: bm, ns := N, qualname := q, hasDict := true, slotNames := sn, subclasses := sub, abstract := ab, collection := col, hasDel := false } := by unfold clsIn; rw [hC] <;> rfl
  have ns1 : (nm == ("self" : Str)) = false := by simpa using T.self
  have lself : (iS nm).names.lookup ("self" : Str) = some .local := rfl
  have lnm : (iS nm).names.lookup nm = some .local := by simp [iS, List.lookup, ns1]
  have ns2 : (("__class__" : Str) == nm) = false := by simpa using fun z => T.nmC z.symm
  have ns3 : (("super" : Str) == nm) = false := by simpa using fun z => T.nmS z.symm
  have lcl : (iS nm).names.lookup ("__class__" : Str) = some .free := by
    simp [iS, List.lookup, ns2, show (("__class__" : Str) == ("self" : Str)) = false by decide]
  have lsu : (iS nm).names.lookup ("super" : Str) = some .globalImplicit := by
    simp [iS, List.lookup, ns3, show (("super" : Str) == ("self" : Str)) = false by decide, show (("super" : Str) == ("__class__" : Str)) = false by decide]
  refine ks_codeAny_call_defAt (binds := [("self", .ref x), (nm, .int i tk)]) (body := iB nm fld txt j q1 q2 q3 q4 q5 q6 q7 q8 q9 q10 q11 q12 q13) hroom (X _ _ lk) rfl hlim (codeRec_of X hcd) rfl hbind (fun y hy => ?_) (fun y hy => ?_) (fun h₁ hns hk => ?_) rfl rfl rfl
  · have hy : y ∈ [(PySem.Str.ofString "self", NameKind.local), (nm, .local), (PySem.Str.ofString "__class__", .free), (PySem.Str.ofString "super", .globalImplicit)] := hy
    simp only [List.mem_cons, List.not_mem_nil, or_false] at hy
    rcases hy with rfl | rfl | rfl | rfl <;> (intro z; cases z)
  · rcases List.mem_cons.mp hy with rfl | hy
    · exact lself
    · rw [List.mem_singleton.mp hy]; exact lnm
  have X1 : K.In h₁ := X.keeps hk
  have hx1 := hk _ _ hx
  have vself : ([("self", Value.ref x), (nm, Value.int i tk)] : List (Str × Value)).reverse.lookup ("self" : Str) = some (.ref x) := by
    show (match ("self" : Str) == nm with | true => some (Value.int i tk) | false => _) = _
    rw [show (("self" : Str) == nm) = false by simpa using fun z => T.self z.symm]
    rfl
  have vnm : ([("self", Value.ref x), (nm, Value.int i tk)] : List (Str × Value)).reverse.lookup nm = some (.int i tk) := by
    show (match nm == nm with | true => some (Value.int i tk) | false => _) = _
    rw [show (nm == nm) = true by simp]
  have hxL : s.heap.objs.size ≠ x := Nat.ne_of_gt (Heap.lt_size hx)
  have hsu1 : (envX qual (iS nm) s.heap.objs.size fI (.ref cda) [("__class__", cc)]).kindOf "super" = some .globalImplicit := lsu
  have hcl1 : (envX qual (iS nm) s.heap.objs.size fI (.ref cda) [("__class__", cc)]).kindOf "__class__" = some .free := lcl
  show wpAt _ _ _ (execs _ (envX qual (iS nm) s.heap.objs.size fI (.ref cda) [("__class__", cc)])) _ _ _
  refine ks_wpAt_execs_cons (ks_wpAt_Expr_any (ks_wpAt_MethodCall (pl := do return (← importBound (.Call (.Name "super" q1) [] [] q2) (envX qual (iS nm) s.heap.objs.size fI (.ref cda) [("__class__", cc)])).getD true) ?_ ?_))
  rotate_left
  · rw [arm_eval_Call]
    unfold methodCall methodCallPos
    simp only [hln, Bool.or_true, if_true]
    rfl
  refine ks_wpAt_super_base (env := envX qual (iS nm) s.heap.objs.size fI (.ref cda) [("__class__", cc)]) hsu1 hcl1 (by decide) rfl (X1 _ _ lk) rfl rfl rfl (X1 _ _ lcode) rfl hvs hfile T.top ?_
  obtain ⟨mb, hmb, hbt⟩ := hm.blt
  have b1 : ∀ b o, base.get? b = some o → h₁.get? b = some o := fun b o e => hk b o (hb b o e)
  refine ks_loadName_global rfl hsu1 (loadGlobal_builtin (env := envX qual (iS nm) s.heap.objs.size fI (.ref cda) [("__class__", cc)]) (hm.glob.keeps b1) T.sup (hmb.keeps b1) ((hbt _ (by decide)).trans (by first | boot_by_name | rfl | kernel_rfl)) ⟨rfl, ?_⟩)
  refine wpAny_loadName_free rfl hcl1 rfl ⟨_, X1 _ _ lcell, rfl⟩ ?_
  refine wpAny_loadName_local rfl lself hns vself ?_
  refine ks_wpAny_isType_cls (X1 _ _ hC) rfl ⟨rfl, ?_⟩
  have mro_has : ∀ v : Value, (Value.ref C :: bm).contains v = true → mroIn K C v = some true := fun v hv => by
    unfold mroIn
    rw [hcl, Option.bind_some, if_neg (show ¬ (List.isEmpty (Value.ref C :: bm) = true) from Bool.false_ne_true), hv]
  refine ks_wpAny_call_super (X1 _ _ hC) rfl hx1 rfl (fun c z => by cases z) (looks_mroIn X1 (mro_has _ (by simp))) (fun h₂ hso k2 => ?_)
  have X2 : K.In h₂ := X1.keeps k2
  have hx2 := k2 _ _ hx1
  have hxC : x ≠ C := fun z => by
    rw [z] at hnx
    rw [hnx] at hC
    cases hC
  have I2 : InstAt h₂ x (excO C t0) C none := ⟨hx2, rfl, rfl, trivial⟩
  refine kxs_getMethod kxs_ValueError hso (looks_opaque X2 T.opq) (l₀ := .ref C :: bm) (l := bm) (fun A Q E s k q => wpAny_bind ((looks_clsIn X2 hcl) A _ E s k (wpAny_pure q))) (by simp [List.dropWhile_cons]) X2 hal
    (I2.type.andThen (looks_mroIn X2 (mro_has _ (by rw [List.contains_cons, refsVE_contains "ValueError" bm hbm, show veTail.contains (.type "ValueError") = true by decide +kernel, Bool.or_true])))) hxC (by decide) ?_
  have k3 : ∀ b o, h₁.get? b = some o → (h₂.push (kxs_mw "ValueError.__init__" x)).get? b = some o := fun b o e => Heap.get?_push_of_some _ (k2 b o e)
  have hu3 : (h₂.push (kxs_mw "ValueError.__init__" x)).get? h₂.objs.size = some (kxs_mw "ValueError.__init__" x) := Heap.get?_push_at rfl rfl
  have hns3 := hns.keeps k3
  show wpAny _ _ (callWith q8 (.ref h₂.objs.size) [] ((false, eval (.JoinedStr [.Constant (.str txt) j q4, .FormattedValue (.Name nm q5) (-1) none q6] q7) (envX qual (iS nm) s.heap.objs.size fI (.ref cda) [("__class__", cc)])) :: backTo q8 (starEach [] (envX qual (iS nm) s.heap.objs.size fI (.ref cda) [("__class__", cc)]))) []) _ _ _
  refine kxs_callWith (i := "ValueError.__init__") (x := x) rfl (evalArgs_plain ?_)
  refine Calls.spliced_cons (wpAny_JoinedStr ?_)
  refine wpAny_Constant_str ⟨txt, _, rfl, Nat.le_trans T.tsz (by decide), ?_⟩
  refine wpAny_FormattedValue_plain (wpAny_Name (wpAny_loadName_local rfl lnm hns3 vnm ?_) T.nmD)
  refine wpAny_formatField_int hi ⟨_, _, rfl, hi2, hi2, ?_⟩
  refine Calls.spliced_nil ⟨hu3, ?_⟩
  have hu0 : s.heap.objs.size < h₂.objs.size := (hns.keeps k2).lt
  have gx : ∀ b o, b ≠ x → s.heap.get? b = some o → (hideAll s.heap [x]).get? b = some o := fun b o hb e => hideAll_get [x] e (by simpa using hb)
  have Fr3 : Fr (hideAll s.heap [x]) s.heap.objs.size (h₂.push (kxs_mw "ValueError.__init__" x)) (fun y => ([("self", Value.ref x), (nm, Value.int i tk)] : List (Str × Value)).reverse.lookup y) :=
    ⟨hns3, fun b o e => k3 b o (hk b o (of_hideAll [x] e)), by rw [hideAll_size]; exact Nat.le_refl _⟩
  have KX0 : K.In (hideAll s.heap [x]) := fun b o e => gx b o (fun z => by rw [z, hnx] at e; cases e) (X b o e)
  have gu : (hideAll s.heap [x]).get? h₂.objs.size = none := by
    cases q : (hideAll s.heap [x]).get? h₂.objs.size with
    | none => rfl
    | some o => exact absurd (Nat.lt_trans (Heap.lt_size (of_hideAll [x] q)) hu0) (Nat.lt_irrefl _)
  have N3 : News (hideAll s.heap [x]) s.heap.objs.size (h₂.push (kxs_mw "ValueError.__init__" x)) [(h₂.objs.size, kxs_mw "ValueError.__init__" x), (x, excObj C t0 none .none)] := by
    intro p hp
    rcases List.mem_cons.mp hp with rfl | hp
    · exact ⟨hu3, Nat.ne_of_gt hu0, gu⟩
    · rw [List.mem_singleton.mp hp]
      exact ⟨k3 _ _ hx1, hxL.symm, hideAll_none [x] (List.mem_singleton.mpr rfl)⟩
  refine kxs_call Fr3 KX0 N3 F.excBase_ValueError T.ini (List.mem_cons_self ..) (.tail (Nat.ne_of_gt (Heap.lt_size hx2)) (.head fun _ z => nomatch z)) (by show 1 ≤ sizeLine; decide) fun t1 h₄ F4 N4 _ => ?_
  have hx4 : h₄.get? x = some (excO C t1) := (N4 (x, excObj C t1 none .none) (by simp)).1
  have old : ∀ b o, b ≠ x → s.heap.get? b = some o → h₄.get? b = some o := fun b o hb e => F4.keep b o (gx b o hb e)
  have X4 : K.In h₄ := KX0.keeps F4.keep
  have hns4 := F4.ns
  refine wpAt_of_wpAny (wpAny_execs_cons (plainObj_wpAny_Assign_Attribute ?_))
  refine wpAny_Name (wpAny_loadName_local rfl lnm hns4 vnm ?_) T.nmD
  refine wpAny_Name (wpAny_loadName_local rfl lself hns4 vself ?_) (by decide)
  refine set_plain X4 (ox := excO C t1) (od := none) ⟨hx4, rfl, rfl, trivial⟩ T.sa ?_
  refine exc_osa X4 hx4 hcl (show refsVE (.ref C :: bm) = true from hbm) rfl T.noN (fun h₅ tk₅ dx k5 dn dne hx₅ hn₅ => ?_)
  refine wpAny_execs_nil (hq h₅ tk₅ dx t1 ⟨fun b o hb e => k5 b o hb (old b o hb e), hx₅, ?_, dne, hn₅⟩)
  have z : s.heap.objs.size < h₄.objs.size := hns4.lt
  exact Nat.le_of_lt (Nat.lt_of_lt_of_le z dn)
end
end XIn
end PySem
namespace L2
open PySem PySem.Spec PyProof.Rows
/-- what is wanted of a number that an own exception is made of -/
def NumOk (txt : Str) (i : Int) : Prop := i.natAbs.log2 < 1920 ∧ ((Str.empty ++ txt) ++ (toString i : String)).length ≤ sizeLine
def spIni (C : Addr) (fld txt : Str) : Sp := fun vs H Q _ => ∃ (a : Addr) (i : Int), vs = [.ref a, .int i] ∧ H a = some (exo a C none) ∧ NumOk txt i ∧ ∀ dx, H dx = none → dx ≠ a → Q .non (upd (upd H a (exo a C (some dx))) dx (exd dx [(fld, .int i)]))
theorem fn_init {P : Program} {w : World} {K : PySem.W.Frag} {mg : Str → Option Value} {base : Heap} {C fI : Addr} {fd : FuncData} {nm fld txt : Str} (T : PySem.XIn.OwnI P K mg C fI fd nm fld txt) : FnOk P w K mg base CX0 1 fI fd ["self", nm] (spIni C fld txt) := by
  refine ⟨fun vs H Q E ⟨a, i, e, _⟩ => by rw [e]; rfl, fun A outer s H args us vs Q E hr e0 hbind rv ⟨a, i, e, ha, hi, q⟩ => ?_⟩
  subst e
  cases rv with
  | @cons _ u0 _ ur ra rv =>
  cases rv with
  | @cons _ u1 _ ur1 rb rv =>
  cases rv
  obtain rfl : u0 = Value.ref a := ra
  obtain ⟨tk, rfl⟩ := rb
  obtain ⟨t1, hx⟩ := exo_at e0.hok ha
  have KX : K.In s.heap := e0.mod.kin.keeps fun b o e => (e0.bs b o e).1
  have hnx : K.lookup a = none := by
    cases e : K.lookup a with
    | none => rfl
    | some o =>
      have := (e0.bs a o (e0.mod.kin _ _ e)).2
      rw [ha] at this
      cases this
  obtain ⟨hp, g, dr, tk0, os⟩ := s
  refine PySem.XIn.init_run T KX e0.mod (fun b o e => (e0.bs b o e).1) (e0.mod.nolimit.keeps fun b o e => (e0.bs b o e).1) hx hnx hr.depth (by simpa using hbind) hi.1 hi.2 fun h' tk' dx t2 IE => ?_
  have hnd : H dx = none := e0.hok.fresh IE.dbig
  -- the heap between: x has its dict's name, the dict itself is not laid yet
  have gk : ∀ b, b ≠ dx → ∀ o, h'.get? b = some o → (PySem.W.hideAll h' [dx]).get? b = some o := fun b hb o e => PySem.W.hideAll_get [dx] e (by simpa using hb)
  have back : ∀ b o, (PySem.W.hideAll h' [dx]).get? b = some o → h'.get? b = some o := fun b o => PySem.W.of_hideAll [dx]
  have mid : ∀ b o, b ≠ a → hp.get? b = some o → (PySem.W.hideAll h' [dx]).get? b = some o := fun b o hb e => gk b (Nat.ne_of_lt (Nat.lt_of_lt_of_le (Heap.lt_size e) IE.dbig)) o (IE.keep b o hb e)
  have xm := gk a (Ne.symm IE.dne) _ IE.obj
  have mu : Mut (H a) := by
    rw [ha]
    exact True.intro
  have U1 : Un (frs outer) [] H (upd H a (exo a C (some dx))) hp (PySem.W.hideAll h' [dx]) := Un.write mu (.inl rfl) mid ⟨_, xm⟩
  have O1 : HOk P w (upd H a (exo a C (some dx))) (PySem.W.hideAll h' [dx]) := e0.hok.write mu (.inl rfl) mid ⟨_, xm⟩ (exo_ok xm)
  have n1 : upd H a (exo a C (some dx)) dx = none := by
    rw [upd_ne IE.dne]
    exact hnd
  have new : ObjOk P w (upd (upd H a (exo a C (some dx))) dx (exd dx [(fld, .int i)])) h' dx (exd dx [(fld, .int i)]) := exd_ok IE.ns (relO_put (fs := []) (show RelV (.int i) (.int i tk) from ⟨tk, rfl⟩) fun g => True.intro)
  exact ⟨.non, _, rfl, e0.bare, U1.trans (Un.laidN back (PySem.W.hideAll_none [dx] (List.mem_singleton.mpr rfl)) n1), O1.laidN back n1 new, rfl, q dx hnd IE.dne⟩
end L2

/-! exceptions by data: what a def lets out, told beside what it gives -/
namespace Dv
open PySem PySem.Spec L2
open PyProof.Rows hiding St
section
variable {K : PySem.W.Frag} {T : List (Addr × Str)} {W W2 : Wd K T} {G : Ctx}
/-- what is let out is met by what is wanted of it -/
def XOk (W : Wd K T) (H : Hp) (Ech : XK) (X : Xd → Prop) : Prop := ∀ (c : Value) (d : Option Addr) (x : Xd) (H' : Hp), Ex W H H' → W.J H' → XD W H' c d x → X x → Ech c d H'
theorem XOk.mono {H H' : Hp} {Ech : XK} {X : Xd → Prop} (h : XOk W H Ech X) (e : Ex W H H') : XOk W H' Ech X := fun c d x H2 e2 => h c d x H2 (e.trans e2)
theorem XOk.imp {H : Hp} {Ech : XK} {X X' : Xd → Prop} (h : XOk W H Ech X) (i : ∀ x, X' x → X x) : XOk W H Ech X' := fun c d x H2 e2 j2 dx p => h c d x H2 e2 j2 dx (i x p)
def EX (K : PySem.W.Frag) (T : List (Addr × Str)) (Ech : XK) (te : TE) (G : Ctx) (P : PyData → Prop) (X : Xd → Prop) : Prop := ∀ (W : Wd K T) (σ : L2.St) (H : Hp), Sl W H σ G → W.J H → XOk W H Ech X → ∀ Q : VK, (∀ v d H', Ex W H H' → W.J H' → D W H' v d → P d → Q v H') → te σ H Q
def MX (K : PySem.W.Frag) (T : List (Addr × Str)) (t : L2.St → Hp → XK → Prop) (G : Ctx) (X : Xd → Prop) : Prop := ∀ (W : Wd K T) (σ : L2.St) (H : Hp), Sl W H σ G → W.J H → ∀ Q : XK, XOk W H Q X → t σ H Q
def SX (K : PySem.W.Frag) (T : List (Addr × Str)) (Ech : XK) (t : TS) (G : Ctx) (F : EndG) (X : Xd → Prop) : Prop := ∀ (W : Wd K T) (D' : Ends) (σ : L2.St) (H : Hp), Sl W H σ G → W.J H → Ok W D' F H → XOk W H Ech X → t D' σ H
variable {Ech : XK} {X : Xd → Prop} {P : PyData → Prop} {t u : TS} {tt : TT} {te ta tb : TE} {F : EndG}
theorem ex_of (h : E K T te G P) : EX K T Ech te G P X := fun W σ H s j _ => h W σ H s j
theorem sx_of (h : S K T t G F) : SX K T Ech t G F X := fun W D' σ H s j k _ => h W D' σ H s j k
theorem sx_seq (h : SX K T Ech t G { F with nx := fun G' => SX K T Ech u G' F X } X) : SX K T Ech (tSeq t u) G F X := fun W D' σ H s j k x => h W { D' with nx := u D' } σ H s j ⟨fun σ' H' G' e j' s' f => f W D' σ' H' s' j' (k.mono e) (x.mono e), k.rt, k.rl, k.bk, k.ct⟩ x
theorem sx_if {b : Bool} (h : ET K T tt G (· = b)) (h1 : b = true → SX K T Ech t G F X) (h2 : b = false → SX K T Ech u G F X) : SX K T Ech (tIfS tt t u) G F X := fun W D' σ H s j ok x => h W σ H s j _ fun c H1 e1 j1 p => by
  subst p
  cases c with
  | true => exact iteT (h1 rfl W D' σ H1 (s.mono e1) j1 (ok.mono e1) (x.mono e1))
  | false => exact iteF (h2 rfl W D' σ H1 (s.mono e1) j1 (ok.mono e1) (x.mono e1))
theorem sx_drop (h : EX K T Ech te G P X) (k : ∀ d, P d → F.nx G) : SX K T Ech (tDrop te) G F X := fun W D' σ H s j ok x => h W σ H s j x _ fun v d H1 e1 j1 dv p => ok.nx _ H1 _ e1 j1 (s.mono e1) (k d p)
theorem sx_ret (h : EX K T Ech te G P X) (k : ∀ d, P d → F.rt d) : SX K T Ech (tRet te) G F X := fun W D' σ H s j ok x => h W σ H s j x _ fun v d H1 e1 j1 dv p => ok.rt v d H1 e1 j1 dv (k d p)
theorem sx_asg {i : Nat} (h : EX K T Ech te G P X) (k : ∀ d, P d → F.nx (G.set i (some (.dat d)))) : SX K T Ech (tAsg te (gName i)) G F X := fun W D' σ H s j ok x => h W σ H s j x _ fun v d H1 e1 j1 dv p => ok.nx _ H1 _ e1 j1 ((s.mono e1).set (.dat dv)) (k d p)
theorem sx_for {wi : TI} {g : TG} {vs : List Nat} {n : Nat} {yd : Nat → PyData → Prop} (I : Nat → Ctx → Prop) (hi : Iw K T wi G n yd) (h0 : I 0 G)
    (hs : ∀ i d G', i < n → yd i d → I i G' → ∃ G2, Tg K T g vs d G' G2 ∧ SX K T Ech t G2 { F with nx := I (i + 1), ct := I (i + 1), bk := F.nx } X) (hd : ∀ G', I n G' → F.nx G') : SX K T Ech (tFor wi g t) G F X := fun W D' σ H s j ok xo => hi W σ H s j _ fun J' H1 Gd Y e1 j1 w hG hY => by
  refine for_it w (fun i σ' H' => ∃ G', Ex W H1 H' ∧ W.J H' ∧ Sl W H' σ' G' ∧ I i G') ⟨G, .refl _, j1, s.mono e1, h0⟩ (fun i σ' H' _ ⟨G', e, _⟩ => hG W H' (.refl _) e) (fun i x σ' H' H2 hin ⟨G', e, j2, s2, hI⟩ y => ?_) fun σ' H' ⟨G', e, j2, s2, hI⟩ => ok.nx _ _ _ (e1.trans e) j2 s2 (hd G' hI)
  obtain ⟨e3, j3, d, dx, yx⟩ := hY W i H' x H2 (.refl _) hin e j2 y
  obtain ⟨G2, tg, hb⟩ := hs i d G' hin yx hI
  have ee := e1.trans (e.trans e3)
  refine tg W σ' H2 x (s2.mono e3) dx _ fun σ3 s3 _ _ => hb W _ σ3 H2 s3 j3 ?_ (xo.mono ee)
  exact ⟨fun σ4 H4 G4 e4 j4 s4 f => ⟨G4, (e.trans e3).trans e4, j4, s4, f⟩, fun v d H4 e4 => ok.rt v d H4 (ee.trans e4), fun p xs ds H4 f => ok.rl p xs ds H4 (f.pre ee), fun σ4 H4 G4 e4 j4 s4 f => ok.nx σ4 H4 G4 (ee.trans e4) j4 s4 f, fun σ4 H4 G4 e4 j4 s4 f => ⟨G4, (e.trans e3).trans e4, j4, s4, f⟩⟩
/-- raise e -/
theorem sx_raise {m : L2.St → Hp → XK → Prop} (h : MX K T m G X) : SX K T Ech (fun _ σ H => m σ H fun c d H' => Ech c d H') G F X := fun W D' σ H s j _ x => h W σ H s j _ x
/-- C("..") of an own class without __init__ -/
theorem mx_own {C : Addr} (h : X ⟨C, none⟩) : MX K T (fun _ H Q => Q (.ref C) none H) G X := fun W σ H s j Q q => q _ _ _ H (.refl H) j .non h
theorem mx_ownA {C : Addr} {tr : TA} {R : List Ob → Prop} (h : EA K T tr G R) (hl : ∀ os, R os → os.length ≤ sizeLine) (hx : X ⟨C, none⟩) : MX K T (fun σ H Q => tr σ H fun vs H1 => vs.length ≤ sizeLine ∧ Q (.ref C) none H1) G X := fun W σ H s j Q q => h W σ H s j _ fun vs os H1 e1 j1 dv p =>
  ⟨by rw [Paired.length dv]; exact hl os p, q _ _ _ H1 e1 j1 .non hx⟩
/-- C(i) of an own class whose __init__ keeps spIni -/
theorem mx_ini {C : Addr} {fld txt : Str} {tr : TA} {i : Int} (h : EA K T tr G (· = [.dat (.int i)])) (hn : NumOk txt i) (hx : X ⟨C, some [(fld, .int i)]⟩) : MX K T (tMkO C (spIni C fld txt) [] tr) G X := fun W σ H s j Q q => h W σ H s j _ fun vs os H1 e1 j1 dv p => by
  subst p
  cases dv with
  | @cons v _ _ _ r1 rn =>
  cases rn
  cases r1 with
  | dat r1 =>
  cases r1
  refine ⟨by show 1 ≤ 1000; decide, fun a na => ⟨a, i, rfl, upd_same, hn, fun dx nd ne => ⟨rfl, dx, [(fld, .int i)], ?_, upd_same, ?_, ?_⟩⟩⟩
  · rw [upd_ne (Ne.symm ne), upd_same]
  · rw [upd_ne ne] at nd
    exact nd
  · have n1 : H1 dx = none := by
      rw [upd_ne ne] at nd
      exact nd
    have eq : upd (del (upd (upd (upd H1 a (exo a C none)) a (exo a C (some dx))) dx (exd dx [(fld, .int i)])) a) dx (.xd [(fld, .int i)]) = upd H1 dx (.xd [(fld, .int i)]) := by
      funext b
      by_cases hb : b = dx
      · rw [hb, upd_same, upd_same]
      · rw [upd_ne hb, upd_ne hb]
        by_cases ha : b = a
        · rw [ha, del_same, na]
        · rw [del_ne ha, upd_ne hb, upd_ne ha, upd_ne ha]
    rw [eq]
    exact q _ _ _ _ (e1.trans (.new n1)) (j_new j1 n1) (.wth (new_ne j1 n1) upd_same (.cons ⟨rfl, .int i⟩ .nil)) hx
/-- a raising def's promise -/
def spX (K : PySem.W.Frag) (T : List (Addr × Str)) (pre : List Ob → Prop) (post : List Ob → PyData → Prop) (exc : List Ob → Xd → Prop) : Sp := fun vs H Q E' => ∃ (W : Wd K T) (os : List Ob), W.J H ∧ Paired (OD W H) vs os ∧ pre os ∧
  (∀ v d H', Ex W H H' → W.J H' → D W H' v d → post os d → Q v H') ∧ XOk W H E' (exc os)
theorem ex_call {tr : TA} {os : List Ob} {pre : List Ob → Prop} {post : List Ob → PyData → Prop} {exc : List Ob → Xd → Prop} (h : EA K T tr G (· = os)) (hp : pre os) (hk : ∀ d, post os d → P d) (hx : ∀ x, exc os x → X x) : EX K T Ech (tCall (spX K T pre post exc) [] Ech tr) G P X := fun W σ H s j xo Q q => h W σ H s j _ fun vs os' H1 e1 j1 dv p => by
  subst p
  exact ⟨W, _, j1, by rw [List.append_nil]; exact dv, hp, fun v d H2 e2 j2 dv' z => q v d H2 (e1.trans e2) j2 dv' (hk d z), (xo.mono e1).imp hx⟩
variable {P' : Program} {w : World} {mg : Str → Option Value} {base : Heap}
/-- THE RULE for a def that may raise -/
theorem ok_defX {x qual : Str} {st : Stmt} {f : Addr} {fd : FuncData} {N ps : List Str} {k : Nat} {pre : List Ob → Prop} {post : List Ob → PyData → Prop} {exc : List Ob → Xd → Prop} (Fn : Fun K x qual st f fd) (Sc : FnScope N ps (defScope st)) (hl : ∀ os, pre os → os.length = ps.length)
    (hbody : ∀ (cdv : Value) (A : Around) (outer : List Env) (s : Shared) (H : Hp) (E' : XK), Room k (A.deeper (envOfC qual (defScope st) s.heap.objs.size f cdv)) →
      ∃ t, PSs (cxOf (L2.CX P' w) P' w K mg base N qual (defScope st) f cdv A outer s H E') (defBody st) t ∧ ∀ os, pre os → SX K T E' t (startG N os) { nx := fun _ => post os .none, rt := post os } (exc os)) : FnOk P' w K mg base (L2.CX P' w) (k + 1) f fd ps (spX K T pre post exc) := by
  refine Fn.okX Sc (fun vs H Q E' ⟨W, os, j, dv, hp, _⟩ => (Paired.length dv).trans (hl os hp)) fun cdv A outer s H vs Q E' hr ⟨W, os, j, dv, hp, q, xo⟩ => ?_
  obtain ⟨t, ht, hs⟩ := hbody cdv A outer s H E' hr
  exact ⟨t, ht, hs os hp W _ _ H (start_sl dv) j ⟨fun σ' H' G' e j' _ f => q .non .none H' e j' .non f, fun v d H' e j' dv' f => q v d H' e j' dv' f, fun _ _ _ _ _ _ _ _ _ f => f.elim, fun _ _ _ _ _ _ f => f.elim, fun _ _ _ _ _ _ f => f.elim⟩ xo⟩
end
end Dv

/-! a caught exception with a dict: isinstance, its fields; list.count; a lambda's word -/
namespace L2
open PySem PySem.Spec PyProof.Rows
/-- isinstance(e, c), e what the suite holds, with or without a dict -/
def rIsX (K : PySem.W.Frag) (a : Addr) (cls : Value) (d : Option Addr) : List V → Hp → VK → Prop := fun xs H Q => ∃ (D : Addr) (c : V) (cv : Value) (b : Bool), cls = .ref D ∧ ExcC K D ∧ (d = none ∨ ∃ dd fs, d = some dd ∧ H dd = some (.xd fs)) ∧ xs = [.ref a, c] ∧
  (∀ u, RelV c u → u = cv) ∧ PySem.W.kitOne K (.ref D) cv = some b ∧ Q (.bl b) H
theorem call_isX {X : Cx} {a : Addr} {cls : Value} {d : Option Addr} {oe : Obj} {pn : List (Addr × Obj)} (hz : Zc cls d oe) (hf : ∃ vs, oe.data = .fields vs) : CallR (X.suite a ((a, oe) :: pn)) (.builtin "isinstance") (rIsX X.K a cls d) := by
  intro pins s σ H xs us Q I r h
  obtain ⟨D, c, cv, b, rfl, C, hd, rfl, hcv, e, q⟩ := h
  cases r with
  | cons rx rr =>
  cases rr with
  | cons rt rr =>
  cases rr
  obtain rfl := hcv _ rt
  obtain rfl : _ = Value.ref a := rx
  obtain ⟨hget, _⟩ := I.pin (a, oe) (List.mem_append_left _ List.mem_cons_self)
  obtain ⟨vs, hv⟩ := hf
  have nc : PySem.W.notCls oe = true := by
    unfold PySem.W.notCls
    rw [hv] <;> rfl
  obtain ⟨cd, hc, _⟩ := PySem.W.any_some C.hd
  have J : ∃ od, PySem.W.InstAt s.heap a oe D od := by
    rcases hd with rfl | ⟨dd, fs, rfl, hx⟩
    · exact ⟨none, hget, hz.1, nc, by rw [hz.2]; exact True.intro⟩
    · obtain ⟨o, ho⟩ := objOk_get (I.hok dd _ hx)
      exact ⟨some o, hget, hz.1, nc, by rw [hz.2]; exact ho⟩
  obtain ⟨od, J⟩ := J
  exact PySem.W.kia_one (PySem.W.kitx_exc (od := od) (by rw [hc]; rfl) C.hg C.hk C.hs C.ha C.hn C.ht C.hm) I.kIn J e (fun z => nomatch z) fun tk => ⟨.bl b, H, I.kept (t' := tk) fun _ _ z => z, rfl, q⟩
/-- e.f in a suite -/
def tXfA (K : PySem.W.Frag) (a : Addr) (cls : Value) (d : Option Addr) (f : Str) (te : TE) : TE := fun σ H Q => ∃ C, XfC K C ∧ PySem.W.findIn K (.ref C) f = some none ∧ tXf a cls d C f te σ H Q
theorem pe_xfA {X : Cx} {a : Addr} {oe : Obj} {cls : Value} {d : Option Addr} {pn : List (Addr × Obj)} {e : Expr} {te : TE} {pos : Pos} {n : Str} (hz : Zc cls d oe) (hf : ∃ vs, oe.data = .fields vs) (he : PE (X.suite a ((a, oe) :: pn)) e te)
    (hb : attributeBase e n X.env (eval e X.env) = eval e X.env := by rfl) : PE (X.suite a ((a, oe) :: pn)) (.Attribute e n pos) (tXfA X.K a cls d n te) :=
  ⟨fun pins s σ H Q I ⟨_, T, hno, h⟩ => (pe_xf T hno hz hf he hb).run pins s σ H Q I h⟩
/-- xs.count(y), all of them flat -/
def rCntF (K : PySem.W.Frag) : V → List V → Hp → VK → Prop := fun x xs H Q => ∃ (p : Addr) (ys : List V) (y : V), x = .ref p ∧ xs = [y] ∧ SqL K H p ys ∧ flatV y = true ∧ ys.all flatV = true ∧ Q (.int (ys.countP fun z => eqV z y : Nat)) H
theorem countU {y : V} : ∀ {ys : List V} {us : List Value}, Vals ys us → ys.all flatV = true → us.countP (eqU y) = ys.countP fun z => eqV z y
  | _, _, .nil, _ => rfl
  | z :: ys, u :: us, .cons r t, f => by
    rw [List.all_cons, Bool.and_eq_true] at f
    rw [List.countP_cons, List.countP_cons, countU t f.2, eqU_of r f.1]
theorem mt_cntF {X : Cx} : MtR X "list.count" (rCntF X.K) := by
  intro pins s σ H x xs v us Q I rx rxs h
  obtain ⟨p, ys, y, rfl, rfl, hs, fy, fys, q⟩ := h
  obtain rfl : v = Value.ref p := rx
  obtain ⟨u, rfl, ru⟩ := rxs.one
  obtain ⟨its, rv, ⟨⟨cls, dd, data, sl⟩, n, ho, hc, hdn, hd⟩, hlen⟩ := I.list hs
  simp only at hc hd
  subst hc hd
  refine call_meets PySem.F.slot_list_count ⟨_, ho, rfl⟩ PySem.F.entry_list_count (PySem.F.args_list_count_2 _ _) (SeqAt.list_countAt p its.toArray n dd sl u (eqU y)) ⟨ho, fun u' hu' => mem_eqAt ru fy rv fys u' (by simpa using hu'), ?_⟩
  have ec : its.toArray.toList.countP (eqU y) = ys.countP fun z => eqV z y := countU rv fys
  refine ⟨.int (ys.countP fun z => eqV z y : Nat), H, I.tok _, ⟨s.toks, ?_⟩, q⟩
  show Value.int ((its.toArray.toList.countP (eqU y) : Nat) : Int) s.toks = Value.int ((ys.countP fun z => eqV z y : Nat) : Int) s.toks
  rw [ec]
/-- slots in full number -/
theorem takes_len {X : Cx} {W : WX} (tk : Takes X W) : Takes X (fun c d σ H => σ.length = X.N.length → W c d σ H) := fun u s' ⟨a, B, sI, pins, σ, H, cls, d, e, I, nb, up, sky, na, os, ag, w⟩ =>
  tk u s' ⟨a, B, sI, pins, σ, H, cls, d, e, I, nb, up, sky, na, os, ag, w I.len⟩
end L2
namespace Dv
open PySem PySem.Spec L2
open PyProof.Rows hiding St
section
variable {K : PySem.W.Frag} {T : List (Addr × Str)} {W W2 : Wd K T} {G : Ctx} {ta tb te : TE}
theorem e_isX {K' : PySem.W.Frag} {i : Nat} {a : Addr} {c : Value} {d : Option Addr} {x : Xd} {cc : V} {cv : Value} {b : Bool} (hg : G[i]? = some (some (.exc a c d x))) (hc : ∀ u, RelV cc u → u = cv) (C : ExcC K' x.C) (hb : PySem.W.kitOne K' (.ref x.C) cv = some b) :
    E K T (tCB (rIsX K' a c d) (tCons (tVar i) (tCons (tC cc) tNil))) G (· = .bool b) := fun W σ H s j Q q => by
  obtain ⟨v, h1, h2⟩ := s.at_ i _ hg
  cases h2 with
  | exc h2 =>
  refine ⟨_, h1, x.C, cc, cv, b, ?_, C, ?_, rfl, hc, hb, q _ _ H (.refl H) j (.bl b) rfl⟩
  · cases h2 <;> rfl
  · cases h2 with
    | non => exact .inl rfl
    | wth n e r => exact .inr ⟨_, _, rfl, e⟩
theorem fds_lookup {H : Hp} {n : Str} {v : PyData} : ∀ {vs : List (Str × V)} {ds : List (Str × PyData)}, Paired (fun p q => p.1 = q.1 ∧ D W H p.2 q.2) vs ds → ds.lookup n = some v → ∃ u, vs.lookup n = some u ∧ D W H u v := by
  intro vs ds r
  induction r with
  | nil => intro h; cases h
  | @cons p q _ _ a _ ih =>
    intro h
    obtain ⟨pn, pv⟩ := p
    obtain ⟨qn, qv⟩ := q
    obtain ⟨a1, a2⟩ := a
    dsimp only at a1 a2
    subst a1
    by_cases z : n = pn
    · subst z
      rw [lookup_put, if_pos rfl]
      have h' : qv = v := by simpa [List.lookup] using h
      exact ⟨pv, rfl, by rw [← h']; exact a2⟩
    · rw [lookup_put, if_neg z]
      refine ih ?_
      have zz : (n == pn) = false := by simpa using z
      simpa [List.lookup, zz] using h
theorem e_xf {K' : PySem.W.Frag} {i : Nat} {a C : Addr} {c : Value} {d : Option Addr} {fs : List (Str × PyData)} {n : Str} {v : PyData} (hg : G[i]? = some (some (.exc a c d ⟨C, some fs⟩))) (hX : XfC K' C) (hn : PySem.W.findIn K' (.ref C) n = some none) (hl : fs.lookup n = some v) :
    E K T (tXfA K' a c d n (tVar i)) G (· = v) := fun W σ H s j Q q => by
  obtain ⟨u, h1, h2⟩ := s.at_ i _ hg
  cases h2 with
  | exc h2 =>
  cases h2 with
  | wth nx e r =>
  obtain ⟨w, hw, dw⟩ := fds_lookup r hl
  exact ⟨C, hX, hn, _, h1, rfl, rfl, _, _, w, rfl, e, hw, q _ _ H (.refl H) j dw rfl⟩
theorem cnt_of {H : Hp} {v : V} {d : PyData} (hv : D W H v d) (f : flatD d = true) : ∀ {xs : List V} {ds : List PyData}, DAll W H xs ds → ds.all flatD = true → xs.all flatV = true ∧ (xs.countP fun z => eqV z v) = ds.countP fun z => PyData.eqv z d
  | _, _, .nil, _ => ⟨rfl, rfl⟩
  | x :: xs, e :: es, .cons a t, h => by
    rw [List.all_cons, Bool.and_eq_true] at h
    obtain ⟨h1, h2⟩ := cnt_of hv f t h.2
    refine ⟨by rw [List.all_cons, h1, (flat_of a h.1).1]; rfl, ?_⟩
    rw [List.countP_cons, List.countP_cons, h2, (flat_of hv f).2 x e a h.1]
/-- l.count(y) -/
theorem e_count {i : Nat} {ds : List PyData} {d : PyData} (hg : G[i]? = some (some (.dat (.list ds)))) (h : E K T te G (· = d)) (f : flatD d = true) (fs : ds.all flatD = true) : E K T (tBM K "list" (rCntF K) (tVar i) (tCons te tNil)) G (· = .int (ds.countP fun z => PyData.eqv z d : Nat)) := fun W σ H s j Q q => by
  obtain ⟨u, h1, h2⟩ := s.at_ i _ hg
  cases h2 with
  | dat h2 =>
  obtain ⟨a, xs, rfl, nx, ha, al⟩ := h2.lst_inv
  refine ⟨.ref a, h1, Or.inl ⟨rfl, xs, SqL.of ha⟩, h W σ H s j _ fun v e H1 e1 j1 dv pv => ?_⟩
  subst pv
  obtain ⟨b1, b2⟩ := cnt_of dv f (al.mono e1) fs
  refine ⟨a, xs, v, rfl, rfl, SqL.of (e1.k _ _ ha (fun _ z => by cases z) nx), (flat_of dv f).1, b1, ?_⟩
  rw [b2]
  exact q _ _ H1 e1 j1 (.int _) rfl
/-- l.index(y): the first place -/
theorem e_index {i k : Nat} {ds : List PyData} {d z : PyData} (hg : G[i]? = some (some (.dat (.list ds)))) (h : E K T te G (· = d)) (f : flatD d = true) (fs : ds.all flatD = true) (hk : ds[k]? = some z) (hz : PyData.eqv z d = true) (hno : ∀ (m : Nat) (z : PyData), m < k → ds[m]? = some z → PyData.eqv z d = false) :
    E K T (tBM K "list" (rIndex K) (tVar i) (tCons te tNil)) G (· = .int k) := fun W σ H s j Q q => by
  obtain ⟨u, h1, h2⟩ := s.at_ i _ hg
  cases h2 with
  | dat h2 =>
  obtain ⟨a, xs, rfl, nx, ha, al⟩ := h2.lst_inv
  refine ⟨.ref a, h1, Or.inl ⟨rfl, xs, SqL.of ha⟩, h W σ H s j _ fun v e H1 e1 j1 dv pv => ?_⟩
  subst pv
  have al1 := al.mono e1
  obtain ⟨b1, _⟩ := cnt_of dv f al1 fs
  obtain ⟨y, hy, dy⟩ := al1.get hk
  have fat : ∀ {m : Nat} {z : PyData}, ds[m]? = some z → flatD z = true := fun {m z} e => List.all_eq_true.mp fs z (List.mem_of_getElem? e)
  refine ⟨a, xs, v, k, y, rfl, rfl, SqL.of (e1.k _ _ ha (fun _ z => by cases z) nx), (flat_of dv f).1, b1, hy, ?_, fun m z' hm hz' => ?_, q _ _ H1 e1 j1 (.int _) rfl⟩
  · rw [(flat_of dv f).2 y z dy (fat hk)]
    exact hz
  · obtain ⟨zd, hzd, dz⟩ := al1.getV hz'
    rw [(flat_of dv f).2 z' zd dz (fat hzd)]
    exact hno m zd hm hzd
/-- l[:k] -/
theorem el_slTo {ds : List PyData} {k : Nat} (ha : E K T ta G (· = .list ds)) (hb : E K T tb G (· = .int k)) : EL K T (tSl (rSlL K) ta tNoPart (tPart tb)) G (· = ds.take k) := fun W σ H s j Q q => ha W σ H s j _ fun v d H1 e1 j1 dv pv => by
  subst pv
  refine hb W σ H1 (s.mono e1) j1 _ fun u d2 H2 e2 j2 du pu => ?_
  subst pu
  obtain ⟨a, xs, rfl, nx, ha, al⟩ := (dv.mono e2).lst_inv
  have hs : HT.sIx xs.length xs.length (some (k : Int)) = min k xs.length := HT.sIx_nat _ _ _
  refine ⟨k, du.int_inv, a, xs, rfl, SqL.of ha, fun p hp => ?_⟩
  have ec : cutV xs none (some (k : Int)) = xs.take k := by
    unfold cutV
    rw [hs, HT.sIx_none]
    simp
  rw [ec]
  exact q p _ _ _ ((Fr.new hp).pre (e1.trans e2)) (j_new j2 hp) (new_ne j2 hp) upd_same ((al.take k).mono (.new hp)) rfl
/-- what the def that is handed a lambda makes of its reading, by data: wd tells what becomes of what is let out -/
def TTw (K : PySem.W.Frag) (T : List (Addr × Str)) (ok : Xd → Prop) (wd : Xd → PyData) : (XK → Hp → VK → Prop) → Hp → VK → Prop := fun tl H Q => ∃ (W : Wd K T) (P : PyData → Prop) (X : Xd → Prop), W.J H ∧
  (∀ (p : Addr) (hp : ¬ W.X p), H p = none → ∀ (Ech : XK) (Q' : VK), (∀ v d H', Ex (W.hide p hp []) (upd H p (.lst [])) H' → (W.hide p hp []).J H' → D (W.hide p hp []) H' v d → P d → Q' v H') → XOk (W.hide p hp []) (upd H p (.lst [])) Ech X → tl Ech (upd H p (.lst [])) Q') ∧
  (∀ x, X x → ok x) ∧ ∀ v d H', Ex W H H' → W.J H' → D W H' v d → ((∃ r, P r ∧ d = .tuple [.str "", r]) ∨ ∃ x, X x ∧ d = wd x) → Q v H'
/-- x(lambda: ..) -/
theorem e_lam {ok : Xd → Prop} {wd : Xd → PyData} {t : XK → TE} {P : PyData → Prop} {X : Xd → Prop} (h : ∀ Ech, EX K T Ech (t Ech) G P X) (hx : ∀ x, X x → ok x) : E K T (LamX.tLam T (TTw K T ok wd) t) G (fun d => (∃ r, P r ∧ d = .tuple [.str "", r]) ∨ ∃ x, X x ∧ d = wd x) := fun W σ H s j Q q =>
  ⟨W.jT j, fun H1 eN t1 => by
    have e1 : Ex W H H1 := .extN eN
    have j1 := W.jt j eN t1
    refine ⟨W, P, X, j1, fun p hp np Ech Q' q' xo => ?_, hx, fun v d H' e2 j2 dv r => q v d H' (e1.trans e2) j2 dv r⟩
    have s1 : Sl (W.hide p hp []) H1 σ G := (s.mono e1).to (hide_out np) rfl
    exact h Ech (W.hide p hp []) σ _ (s1.mono (.new np)) ⟨j_new j1 np, upd_same⟩ xo Q' q'⟩
end
end Dv

/-! tuple(range(..)) by data, also with a step; f-strings of several numbers -/
namespace L2
open PySem PySem.Spec PyProof.Rows
/-- the numbers a, a + c, .. -/
def rgC (a c : Int) (n : Nat) : List V := (List.range n).map fun i => V.int (a + (i : Nat) * c)
theorem vals_rgC {a c : Int} {n : Nat} {acc : Array Value} (h : ItemsOf (fun i v => ∃ t, v = .int (a + i * c) t) acc n) : Vals (rgC a c n) acc.toList := by
  have e : n = acc.toList.length := by rw [Array.length_toList]; exact h.1.symm
  subst e
  refine vals_of_get acc.toList _ fun j u hj => ?_
  obtain ⟨t, rfl⟩ := h.2 j u (by rw [← hj, Array.getElem?_toList])
  exact ⟨t, rfl⟩
/-- tuple(range(a, b, c)) -/
def tTupR3 (ta : TA) : TE := fun σ H Q => ta σ H fun vs H1 => ∃ (i j c : Int) (n : Nat), vs = [.int i, .int j, .int c] ∧ RgC i j c n ∧ n ≤ 2 ^ 24 ∧ ∀ q, H1 q = none → Q (.ref q) (upd H1 q (.tup (rgC i c n)))
section
variable {X : Cx} {a b c : Expr} {ta : TA} {p q pos pos2 : Pos}
theorem pe_tupR3 (hc : X.calm = true) (hgt : Gl X "tuple") (hmt : X.mg "tuple" = none) (hg : Gl X "range") (hm : X.mg "range" = none) (ha : PA X [a, b, c] ta)
    (nr : starEach [.Call (.Name "range" q) [a, b, c] [] pos2] X.env = (false, eval (.Call (.Name "range" q) [a, b, c] [] pos2) X.env) :: starEach [] X.env := by rfl)
    (hs : starEach [a, b, c] X.env = (false, eval a X.env) :: starEach [b, c] X.env := by rfl) (hpl : (backTo pos2 (starEach [b, c] X.env)).any (·.1) = false := by rfl) :
    PE X (.Call (.Name "tuple" p) [.Call (.Name "range" q) [a, b, c] [] pos2] [] pos) (tTupR3 ta) := by
  refine ⟨fun pins s σ H Q I h => ?_⟩
  have inner : wpAny (model X.prog X.w) X.A (eval (.Call (.Name "range" q) [a, b, c] [] pos2) X.env) (fun x s1 => ∃ (r : Addr) (i j k : Int) (n : Nat) (t u v : Tok) (H1 : Hp), x = .ref r ∧ IsRange s1.heap r i j k t u v ∧ Inv X pins σ H1 s1 ∧ RgC i j k n ∧ n ≤ 2 ^ 24 ∧
      ∀ q, H1 q = none → Q (.ref q) (upd H1 q (.tup (rgC i k n)))) X.xe s := by
    refine Call_ (ld_blt I hg hm boot_range (PyProof.Rows.callWith_type1 (thn (ha.run pos2 pins s σ H _ I h) fun us s1 ⟨vs, H1, I1, r1, q1⟩ => ?_) hs hpl))
    obtain ⟨i, j, k, n, e, ok, hn, q1⟩ := q1
    subst e
    cases r1 with
    | cons ri rr =>
    cases rr with
    | cons rj rr =>
    cases rr with
    | cons rk rr =>
    cases rr
    obtain ⟨t, rfl⟩ := ri
    obtain ⟨u, rfl⟩ := rj
    obtain ⟨v, rfl⟩ := rk
    exact call_range_3 ok.1 ⟨_, i, j, k, n, _, _, _, H1, rfl, IsRange.new _ _ _ _ _ _ _, I1.kept (t' := s1.toks) fun b o e => Heap.get?_push_of_some _ e, ok, hn, q1⟩ (.inl (PyProof.noPylong_small ok.2.1))
  refine Call_ (ld_blt I hgt hmt boot_tuple (PyProof.Rows.callWith_type1 (args_cons (thn inner fun x s1 ⟨r, i, j, k, n, t, u, v, H1, ex, hr, I1, ok, hn, q1⟩ => args_nil ?_) nr) nr))
  subst ex
  refine call_tuple_range (I1.ok.hd hc) hr ok.2.2.1 ok.2.2.2 hn fun h' tk acc hk hi => ?_
  have I2 : Inv X pins σ H1 { s1 with heap := h', toks := tk } := I1.kept hk
  have sz : acc.size = n := hi.1
  refine ⟨.ref h'.objs.size, upd H1 h'.objs.size (.tup (rgC i k n)), I2.laid (t' := tk) (fun c o e => Heap.get?_push_of_some _ e) (Nat.le_refl _) (show ObjOk X.prog X.w _ _ _ (.tup (rgC i k n)) from ⟨?_, acc.toList, vals_rgC hi, ?_⟩), rfl, q1 _ (I2.hok.fresh (Nat.le_refl _))⟩
  · unfold rgC
    rw [List.length_map, List.length_range, sizeLine_eq]
    omega
  · rw [Array.toArray_toList]
    exact IsTup.new _ _
end
end L2
namespace Dv
open PySem PySem.Spec L2
open PyProof.Rows hiding St
section
variable {K : PySem.W.Frag} {T : List (Addr × Str)} {G : Ctx} {ta tb tc t1 t2 : TE}
def stepD (a c : Int) (n : Nat) : List PyData := (List.range n).map fun i => .int (a + (i : Nat) * c)
theorem all_ints {W : Wd K T} {H : Hp} (f : Nat → Int) : ∀ l : List Nat, DAll W H (l.map fun i => V.int (f i)) (l.map fun i => PyData.int (f i))
  | [] => .nil
  | i :: r => .cons (.int _) (all_ints f r)
theorem e_mul {i j : Int} (ha : E K T ta G (· = .int i)) (hb : E K T tb G (· = .int j)) (hc : CMul i j) : E K T (tOp (rI CMul fun i j => .int (i * j)) ta tb) G (· = .int (i * j)) := e_op ha hb (rd_I hc fun _ _ => .int _)
theorem e_neg {i : Int} (ha : E K T ta G (· = .int i)) : E K T (tUn (rU fun i => .int (-i)) ta) G (· = .int (-i)) := fun W σ H s j Q q => ha W σ H s j _ fun v d H1 e1 j1 dv p => by
  subst p
  exact ⟨i, dv.int_inv, q _ _ H1 e1 j1 (.int _) rfl⟩
/-- tuple(range(a, b)) -/
theorem e_tupRg {i j : Int} (ha : E K T ta G (· = .int i)) (hb : E K T tb G (· = .int j)) (h : RgOk i j) : E K T (tTupRg (tRg2 ta tb)) G (· = .tuple (stepD i 1 (j - i).toNat)) := fun W σ H s jj Q q => ha W σ H s jj _ fun v d H1 e1 j1 dv p => hb W σ H1 (s.mono e1) j1 _ fun u d2 H2 e2 j2 du p2 => by
  subst p p2
  refine ⟨i, j, dv.int_inv, du.int_inv, h, fun a na => ?_⟩
  refine q _ _ _ ((e1.trans e2).trans (.new na)) (j_new j2 na) (.tup (new_ne j2 na) upd_same ?_) rfl
  have e : rgV i j = (List.range (j - i).toNat).map fun k => V.int (i + (k : Nat) * 1) := by
    unfold rgV
    simp
  rw [e]
  exact all_ints _ _
theorem e_tupR3 {tr : TA} {i j c : Int} {n : Nat} (h : EA K T tr G (· = dats [.int i, .int j, .int c])) (hn : RgC i j c n) (hl : n ≤ 2 ^ 24) : E K T (tTupR3 tr) G (· = .tuple (stepD i c n)) := fun W σ H s jj Q q => h W σ H s jj _ fun vs os H1 e1 j1 dv p => by
  subst p
  have al := all_of (ds := [.int i, .int j, .int c]) dv
  cases al with
  | cons a al =>
  cases al with
  | cons b al =>
  cases al with
  | cons d al =>
  cases al
  cases a
  cases b
  cases d
  exact ⟨i, j, c, n, rfl, hn, hl, fun a na => q _ _ _ (e1.trans (.new na)) (j_new j1 na) (.tup (new_ne j1 na) upd_same (all_ints _ _)) rfl⟩
/-- how long a text of two numbers may be -/
structure Txt2 (a b : Str) (i j : Int) : Prop where
  hi : i.natAbs.log2 < 1920
  hj : j.natAbs.log2 < 1920
  l1 : (Str.empty ++ a).length ≤ sizeLine
  l2 : ((Str.empty ++ a) ++ (toString i : String)).length ≤ sizeLine
  l3 : (((Str.empty ++ a) ++ (toString i : String)) ++ b).length ≤ sizeLine
  l4 : ((((Str.empty ++ a) ++ (toString i : String)) ++ b) ++ (toString j : String)).length ≤ sizeLine
theorem e_fstr2 {a b : Str} {i j : Int} (h1 : E K T t1 G (· = .int i)) (h2 : E K T t2 G (· = .int j)) (z : Txt2 a b i j) :
    E K T (fun σ H Q => tJs [tC (.str a), tFmt t1, tC (.str b), tFmt t2] Str.empty σ H fun out H1 => Q (.str out) H1) G (fun _ => True) := fun W σ H s jj Q q => by
  refine ⟨a, rfl, z.l1, h1 W σ H s jj _ fun v d H1 e1 j1 dv pv => ?_⟩
  subst pv
  refine .inr ⟨i, dv.int_inv, z.hi, _, rfl, z.l2, b, rfl, z.l3, h2 W σ H1 (s.mono e1) j1 _ fun u d2 H2 e2 j2 du pu => ?_⟩
  subst pu
  exact .inr ⟨j, du.int_inv, z.hj, _, rfl, z.l4, q _ _ H2 (e1.trans e2) j2 (.str _) True.intro⟩
end
end Dv

/-! x(lambda a=0: body): a lambda with one written default that its body doesn't read -/
namespace LamD
open PySem PySem.Spec PyProof.Rows L2 LamX
/-- its names: the parameter an, captured ones, globals -/
structure LamDS (sc scope : Scope) (an : Str) (N : List Str) : Prop where
  kind : scope.kind = .function
  co : scope.isCoroutine = false
  gen : scope.isGenerator = false
  par : scope.names.lookup an = some .local
  noN : an ∉ N
  nocell : ∀ y ∈ scope.names, y.2 ≠ .cell
  loc : ∀ y ∈ scope.names, y.2 = .local → y.1 = an
  free : ∀ y ∈ scope.names, y.2 = .free → sc.names.lookup y.1 = some .cell ∨ sc.names.lookup y.1 = some .free
abbrev lq (X : Cx) : Str := X.env.qual ++ "<lambda>"
abbrev lcl (X : Cx) (scope : Scope) : List (Str × Addr) := cloFrom X.env.cells scope.names []
/-- the function at f, its default in the tuple at t, its code object at c -/
structure Made (X : Cx) (params : Arguments) (body : Expr) (scope : Scope) (f c t : Addr) (v : Value) (H : Hp) (s : Shared) : Prop where
  fn : ∃ doc pm ctv, s.heap.get? f = some (PySem.W.kdv_obj "<lambda>" (lq X) params (.expr body) scope (lcl X scope) (.ref t) doc pm c ctv)
  tup : s.heap.get? t = some (PySem.W.kdv_tup [v])
  nf : H f = none
  nt : H t = none
  ff : f ∉ frs X.stack
  ft : t ∉ frs X.stack
  code : H c = some (CodeO c (lq X))
theorem has_free {X : Cx} {scope : Scope} {an : Str} (L : LamDS X.env.scope scope an X.N) (ok : X.Ok) : ∀ y ∈ scope.names, y.2 = .free → ∃ c, X.env.cells.lookup y.1 = some c := fun y hy e => ok.has _ (L.free y hy e)
/-- one more code object in the table -/
theorem tabs_add {T : List (Addr × Str)} {H : Hp} {P c : Addr} {q : Str} {ps : Array Value} {pos : Pos} (hT : Tabs T H) (hu : ∀ p ∈ T, p.1 = P → p.2 = q) (hP : H P = some (.tbl ps)) (ht : TriplesOk ps.toList)
    (ha : ∀ (p : Pos) (cv : Value), codeAmong p ps.toList = some cv → ∃ c, cv = .ref c ∧ H c = some (CodeO c q)) (nC : H c = none) :
    ExtN H (upd (upd H P (.tbl (ps ++ #[rawInt pos.line, rawInt pos.col, .ref c]))) c (CodeO c q)) ∧ Tabs T (upd (upd H P (.tbl (ps ++ #[rawInt pos.line, rawInt pos.col, .ref c]))) c (CodeO c q)) := by
  have ext : ExtN H (upd (upd H P (.tbl (ps ++ #[rawInt pos.line, rawInt pos.col, .ref c]))) c (CodeO c q)) := by
    intro b o e n
    have h1 : b ≠ c := ne_of_none e nC
    have h2 : b ≠ P := by
      rintro rfl
      rw [hP] at e
      exact n ps (Option.some.inj e).symm
    rw [upd_ne h1, upd_ne h2]
    exact e
  refine ⟨ext, fun p hp => ?_⟩
  have lst : (ps ++ #[rawInt pos.line, rawInt pos.col, .ref c]).toList = ps.toList ++ [rawInt pos.line, rawInt pos.col, .ref c] := Array.toList_append
  by_cases hb : p.1 = P
  · have e2 := hu p hp hb
    unfold TabS
    rw [hb, e2]
    refine ⟨ps ++ #[rawInt pos.line, rawInt pos.col, .ref c], by rw [upd_ne (ne_of_none hP nC), upd_same], by rw [lst]; exact PySem.TriplesOk_snoc _ _ _ _ ht, ?_⟩
    intro p' cv h
    rw [lst] at h
    rcases among_app _ ht h with h | rfl
    · obtain ⟨c0, e0, h0⟩ := ha p' cv h
      exact ⟨c0, e0, ext _ _ h0 codeO_ne⟩
    · exact ⟨c, rfl, upd_same⟩
  · obtain ⟨qs, h1, h2, h3⟩ := hT p hp
    exact ⟨qs, by rw [upd_ne (ne_of_none h1 nC), upd_ne hb]; exact h1, h2, fun p' cv h => (h3 p' cv h).imp fun c0 z => ⟨z.1, ext _ _ z.2 codeO_ne⟩⟩
section
variable {X : Cx} {pins : List (Addr × Obj)} {σ : L2.St} {H HZ : Hp} {s s1 : Shared} {params : Arguments} {body : Expr} {scope : Scope} {an : Str}
theorem made {T : List (Addr × Str)} {c P : Addr} {pos dp : Pos} {i : Int} {j : Tok} {E : Value → Shared → Prop} {Q : Value → Shared → Prop} (I : Inv X pins σ H s) (TB : TabB X.base X.mg c P) (hcode : X.env.code = .ref c) (hm : (P, lq X) ∈ T) (hu : ∀ p ∈ T, p.1 = P → p.2 = lq X)
    (hT : Tabs T H) (L : LamDS X.env.scope scope an X.N) (hd : params.defaults = [.Constant (.int i) j dp]) (hk0 : params.kw_defaults = [])
    (h : ∀ (f c' t : Addr) (tk : Tok) (H1 : Hp) (s' : Shared), Inv X pins σ H1 s' → ExtN H H1 → Tabs T H1 → Made X params body scope f c' t (.int i tk) H1 s' → Q (.ref f) s') :
    wpAny (model X.prog X.w) X.A (eval (.Lambda params body scope pos) X.env) Q E s := by
  obtain ⟨hp, g, d, tk, os⟩ := s
  refine PySem.W.kdv_lam (by rw [hd]; rfl) hk0 ?_
  rw [hd]
  refine PySem.W.kdv_all1 (wpAny_Constant_int (PySem.W.kdv_all0 ?_))
  rw [makeFunction_eq]
  simp only [List.zip_nil_right, List.filterMap_nil, List.isEmpty_nil, if_true, pure_bind, List.isEmpty_cons, Bool.false_eq_true, if_false]
  refine wpAny_bind (wpAny_newTextTuple ?_)
  have I1 : Inv X pins σ H ⟨hp.push (PySem.W.kdv_tup [.int i tk]), g, d, tk + 1, os⟩ := I.kept (t' := tk + 1) fun b o e => Heap.get?_push_of_some _ e
  have hn0 : H hp.objs.size = none := I.hok.fresh (Nat.le_refl _)
  have at0 : (hp.push (PySem.W.kdv_tup [.int i tk])).get? hp.objs.size = some (PySem.W.kdv_tup [.int i tk]) := Heap.get?_push_size _ rfl
  have sz1 : (hp.push (PySem.W.kdv_tup [.int i tk])).objs.size = hp.objs.size + 1 := Heap.size_push ..
  have far : ∀ f, hp.objs.size ≤ f → f ∉ frs X.stack := fun f hf z => by
    have lt := I.lt
    rcases List.mem_cons.mp (I.stkSub _ z) with e | e
    · rw [e] at hf
      exact absurd lt (Nat.not_lt.mpr hf)
    · exact I.nofs hf e
  obtain ⟨ps, hP, ht, ha⟩ := hT _ hm
  have atP : (hp.push (PySem.W.kdv_tup [.int i tk])).get? P = some { cls := .none, data := .fields ps } := I1.hok P _ hP
  have neP : hp.objs.size ≠ P := fun z => by rw [← z, hn0] at hP; cases hP
  have bP : (hp.push (PySem.W.kdv_tup [.int i tk])).BuiltinsAt X.mg P := TB.bm.keeps I1.bk
  have clo := closure_ok (has_free L I.ok)
  cases hc : codeAmong pos ps.toList with
  | some cv =>
    obtain ⟨c', rfl, hco⟩ := ha pos cv hc
    refine PySem.W.kdv_makeTailHit (mg := X.mg) (c := c) (P := P) (ps := ps) clo I.ok.glob (I1.mod.glob.keeps I1.bk) hcode (TB.code.keeps I1.bk) atP ht hc bP fun ctv doc h' tk' hx hsz => ?_
    have up : hp.objs.size ≤ h'.objs.size := Nat.le_trans (by rw [sz1]; omega) hsz
    exact h h'.objs.size c' hp.objs.size tk H _ (I1.kept (t' := tk') fun b o e => Heap.get?_push_of_some _ (hx b o e)) (ExtN.refl H) hT
      ⟨⟨_, _, _, Heap.get?_push_size _ rfl⟩, Heap.get?_push_of_some _ (hx _ _ at0), I.hok.fresh up, hn0, far _ up, far _ (Nat.le_refl _), hco⟩
  | none =>
    refine PySem.W.kdv_makeTail (mg := X.mg) (c := c) (P := P) (ps := ps) clo I.ok.glob (I1.mod.glob.keeps I1.bk) hcode (TB.code.keeps I1.bk) atP ht hc TB.gP bP fun c' ctv doc h' tk' hx hge hlt hrec htb => ?_
    obtain ⟨_, oc, vs, t, e2, hoc, hdc, hvc⟩ := hrec
    cases e2
    have up : hp.objs.size ≤ c' := Nat.le_trans (by rw [sz1]; omega) hge
    have nC : H c' = none := I.hok.fresh up
    have upf : hp.objs.size ≤ h'.objs.size := Nat.le_trans up (Nat.le_of_lt hlt)
    obtain ⟨eN, T1⟩ := tabs_add (pos := pos) hT hu hP ht ha nC
    have other : ∀ a : Addr, H a = none → a ≠ c' → upd (upd H P (.tbl (ps ++ #[rawInt pos.line, rawInt pos.col, .ref c']))) c' (CodeO c' (lq X)) a = none := fun a na ne => by
      rw [upd_ne ne, upd_ne (fun z => by rw [z, hP] at na; cases na)]
      exact na
    refine h h'.objs.size c' hp.objs.size tk _ _ (inv_table (t' := tk') (more := #[rawInt pos.line, rawInt pos.col, .ref c']) (h' := h'.push (PySem.W.kdv_obj "<lambda>" (lq X) params (.expr body) scope (lcl X scope) (.ref hp.objs.size) doc ((X.mg "__name__").getD .none) c' ctv)) I1 hP
      (fun b o hb e => Heap.get?_push_of_some _ (hx b o hb e)) (Heap.get?_push_of_some _ htb) hge ⟨oc, vs, t, Heap.get?_push_of_some _ hoc, hdc, hvc⟩) eN T1
      ⟨⟨_, _, _, Heap.get?_push_size _ rfl⟩, Heap.get?_push_of_some _ (hx _ _ neP at0), other _ (I.hok.fresh upf) (Nat.ne_of_gt hlt), other _ hn0 (Nat.ne_of_lt (Nat.lt_of_lt_of_le (by rw [sz1]; omega) hge)), far _ upf, far _ (Nat.le_refl _), upd_same⟩
/-- what is captured is captured from the maker's cells -/
theorem lcl_of {y : Str} {c : Addr} (L : LamDS X.env.scope scope an X.N) (ok : X.Ok) (e : (lcl X scope).lookup y = some c) : X.env.cells.lookup y = some c ∧ (y, NameKind.free) ∈ scope.names := by
  rcases cloFrom_mem (PySem.mem_of_lookup e) with z | ⟨h1, h2⟩
  · exact absurd z List.not_mem_nil
  · obtain ⟨c1, hc⟩ := has_free L ok _ h1 rfl
    have hc : X.env.cells.lookup y = some c1 := hc
    rw [hc] at h2
    exact ⟨by rw [hc, h2]; rfl, h1⟩
theorem lcl_has {y : Str} (h : scope.names.lookup y = some .free) : ∃ c, (lcl X scope).lookup y = some c := mem_lookup (cloFrom_has (cells := X.env.cells) (acc := []) (PySem.mem_of_lookup h))
/-- the body's context is entered -/
theorem enter {A : Around} {outer : List Env} {E : XK} {f c' : Addr} {v : Value} {h₁ : Heap} {tk : Nat} (I : Inv X pins σ H s) (L : LamDS X.env.scope scope an X.N) (e0 : Env0 X.prog X.w X.K X.mg X.base A outer s1 HZ) (hd : A.handled = none) (un : Un (frs X.stack) [] H HZ s.heap s1.heap)
    (hns : h₁.Ns s1.heap.objs.size fun y => ([(an, v)] : List (Str × Value)).reverse.lookup y) (kp : ∀ b o, s1.heap.get? b = some o → h₁.get? b = some o) : Inv (lamCx X A outer s1 HZ E scope f c') [] σ HZ { s1 with heap := h₁, toks := tk } := by
  have old : ∀ {c : Addr} {v : Option Value}, H c = none → s.heap.IsCell c v → h₁.IsCell c v := fun {c v} n ⟨o, ho, hdt⟩ => by
    obtain ⟨sl, q⟩ := un.any ho n (by simp)
    exact ⟨_, kp _ _ q, hdt⟩
  have nex : ∀ {b : Addr} {p : Prop}, b ∈ (lamCx X A outer s1 HZ E scope f c').ex → p := fun {b p} z => absurd (show b ∈ ([] : List Addr) from z) List.not_mem_nil
  have ok : (lamCx X A outer s1 HZ E scope f c').Ok := {
    mod := e0.mod
    kind := L.kind
    glob := rfl
    blt := rfl
    above := Nat.le_refl _
    inj := fun y z c e1 e2 => I.ok.inj y z c (lcl_of L I.ok e1).1 (lcl_of L I.ok e2).1
    has := fun y hy => by
      rcases hy with hy | hy
      · exact absurd rfl (L.nocell _ (PySem.mem_of_lookup hy))
      · exact lcl_has hy
    cab := fun y c z _ => by cases z
    hd := fun _ => hd
    frames := Around.frames_deeper e0.frames
    stk := .inr ⟨rfl, rfl⟩
    exf := fun b z => nex z
    bs := e0.bs
    bsz := e0.bsz
    noex := fun b _ _ z => nex z
    exfs := fun b z => nex z
    funs := e0.funs
    frf := e0.frf }
  refine ⟨ok, rfl, e0.bare, Un.kept kp, ⟨_, hns, fun i y v e1 e2 e3 => ?_⟩, fun y c e => ?_, e0.hok.fresh (Nat.le_refl _), fun y c e => ?_, fun q hq => absurd (show q ∈ ([] : List (Addr × Obj)) ++ [] from hq) (by simp), e0.hok.kept kp, I.len⟩
  · have e1 : X.N[i]? = some y := e1
    have hf : scope.names.lookup y = some .free := by
      rcases e3 with k | k | k
      · have z := L.loc _ (PySem.mem_of_lookup k) rfl
        exact absurd (List.mem_of_getElem? e1) (by rw [show y = an from z]; exact L.noN)
      · exact absurd rfl (L.nocell _ (PySem.mem_of_lookup k))
      · exact k
    obtain ⟨m, _, hl⟩ := I.loc
    have cf := L.free _ (PySem.mem_of_lookup hf) rfl
    obtain ⟨u, r, q⟩ := hl i y v e1 e2 (cf.elim (fun k => .inr (.inl k)) fun k => .inr (.inr k))
    obtain ⟨c, hc⟩ := lcl_has (X := X) hf
    refine ⟨u, r, .inr ⟨.inr hf, c, hc, ?_⟩⟩
    have c1 := (lcl_of L I.ok hc).1
    rcases q with ⟨k, _⟩ | ⟨_, c2, k, z⟩
    · have k : X.env.scope.names.lookup y = some .local := k
      rcases cf with k2 | k2 <;> (rw [show X.env.scope.names.lookup y = _ from k2] at k; cases k)
    · rw [c1] at k
      cases k
      exact old (I.freeC y c c1) z
  · obtain ⟨w, z⟩ := I.cell y c (lcl_of L I.ok e).1
    exact ⟨w, old (I.freeC y c (lcl_of L I.ok e).1) z⟩
  · have c1 := (lcl_of L I.ok e).1
    obtain ⟨v, o, ho, _⟩ := I.cell y c c1
    exact un.free c o ho (I.freeC y c c1) (by simp)
/-- the function called, with nothing handed in -/
theorem runD {A : Around} {outer : List Env} {E : XK} {f c' t : Addr} {v : Value} {Q : VK} {tb : TE} (I : Inv X pins σ H s) (L : LamDS X.env.scope scope an X.N) (M : Made X params body scope f c' t v H s) (e0 : Env0 X.prog X.w X.K X.mg X.base A outer s1 HZ) (hd : A.handled = none) (hdep : A.depth < recursionLimit) (lim : s1.heap.NoLimit)
    (un : Un (frs X.stack) [] H HZ s.heap s1.heap) (hc : HZ c' = some (CodeO c' (lq X)))
    (hbind : ∀ doc pm ctv, ∃ k, bindArgs (PySem.W.kdv_fn "<lambda>" (lq X) params (.expr body) scope (lcl X scope) (.ref t) doc pm (.ref c') ctv) ⟨[], []⟩ = seqItems? (.ref t) >>= k ∧ k (some #[v]) = pure [(an, v)])
    (hbody : PE (lamCx X A outer s1 HZ E scope f c') body tb) (h : tb σ HZ Q) : codeAny (model X.prog X.w) A (.call (.ref f) ⟨[], []⟩) (CR (L2.CX X.prog X.w) outer X.prog X.w HZ s1 Q E) s1 := by
  obtain ⟨doc, pm, ctv, hf⟩ := M.fn
  have hf1 := un.keep f _ hf M.nf M.ff (by simp)
  have ht1 := un.keep t _ M.tup M.nt M.ft (by simp)
  obtain ⟨⟨oc, vs, tq, hoc, hdc, hvc⟩, _, _⟩ := e0.hok c' _ hc
  obtain ⟨k, k1, k2⟩ := hbind doc pm ctv
  have B : BindsTo s1 (PySem.W.kdv_fn "<lambda>" (lq X) params (.expr body) scope (lcl X scope) (.ref t) doc pm (.ref c') ctv) ⟨[], []⟩ [(an, v)] := BindsTo.of_defaults rfl ht1 rfl k1 k2
  refine PySem.W.kla_callFunE hdep hf1 rfl L.co L.gen rfl ⟨c', oc, vs, tq, rfl, hoc, hdc, hvc⟩ (B _ _ _ _ ?_)
  refine wpAny_newFunctionEnv L.nocell (fun y hy => by rw [List.mem_singleton.mp hy]; exact L.par) (fun h₁ hns hsb => ⟨lim.fresh _ hsb, ?_⟩) L.kind
  have kp : ∀ b o, s1.heap.get? b = some o → h₁.get? b = some o := fun b o e => hsb.extBut b o (Nat.ne_of_lt (Heap.lt_size e)) (Heap.get?_push_of_some _ e)
  have J : Inv (lamCx X A outer s1 HZ E scope f c') [] σ HZ { s1 with heap := h₁, toks := s1.toks + ([(an, v)] : List (Str × Value)).length } := enter I L e0 hd un hns kp
  show codeAny _ _ (.expr body (lamEnv X scope s1.heap.objs.size f c')) _ _
  refine PySem.W.kla_codeExpr (wpAny_mono (hbody.run [] _ _ HZ Q J h) (fun u s' hq => ?_) fun _ _ z => z)
  obtain ⟨w, H', J', rv, q⟩ := hq
  exact ⟨w, H', J'.os, J'.bare, J'.base, J'.hok, rv, q⟩
/-- a(), in the def that got the lambda -/
theorem pe_act0 {CXg : CXT} {Eg : XK} {Ng : List Str} {qg a : Str} {sg : Scope} {g f c' t : Addr} {cdg v : Value} {k i : Nat} {pn : List (Addr × Obj)} {xe : Value → Shared → Prop} {W : WX} {E : XK} {tb : TE} {p1 p2 : Pos} (I : Inv X pins σ H s) (L : LamDS X.env.scope scope an X.N) (M : Made X params body scope f c' t v H s)
    (hbind : ∀ doc pm ctv, ∃ k, bindArgs (PySem.W.kdv_fn "<lambda>" (lq X) params (.expr body) scope (lcl X scope) (.ref t) doc pm (.ref c') ctv) ⟨[], []⟩ = seqItems? (.ref t) >>= k ∧ k (some #[v]) = pure [(an, v)])
    (tk : Takes ((cxOf CXg X.prog X.w X.K X.mg X.base Ng qg sg g cdg X.A X.stack s H Eg).tr pn xe) W) (hW : ∀ cls d σ' H', E cls d H' → W cls d σ' H') (hr : Room (k + 1) (X.A.deeper (envOfC qg sg s.heap.objs.size g cdg)))
    (hbody : ∀ (A : Around) (outer : List Env) (s : Shared) (H : Hp), Room k (A.deeper (lamEnv X scope s.heap.objs.size f c')) → PE (lamCx X A outer s H E scope f c') body tb) (hN : Ng[i]? = some a) (hv : Vis sg a) (hda : (a == ("__debug__" : Str)) = false := by decide) (hcd : (a == ("__classdict__" : Str)) = false := by decide) :
    PE ((cxOf CXg X.prog X.w X.K X.mg X.base Ng qg sg g cdg X.A X.stack s H Eg).tr pn xe) (.Call (.Name a p1) [] [] p2) (fun σZ HZ Q => σZ[i]? = some (some (.ref f)) ∧ HZ c' = some (CodeO c' (lq X)) ∧ tb σ HZ Q) := by
  refine ⟨fun pinsZ sZ σZ HZ Q IZ ⟨hs, hc, ht⟩ => ?_⟩
  refine wpAny_Call_Name_kw (thn ((pe_var (pos := p1) (i := i) hN hv hda hcd).run pinsZ sZ σZ HZ (fun u H1 => u = .ref f ∧ H1 = HZ) IZ ⟨.ref f, hs, rfl, rfl⟩) fun u s1 ⟨x, H1, I1, r1, ex, eH⟩ => ?_)
  subst ex
  subst eH
  obtain rfl : u = Value.ref f := r1
  have un : Un (frs X.stack) [] H H1 s.heap s1.heap := I1.base
  obtain ⟨_, _, _, hf⟩ := M.fn
  have rc : codeAny (model X.prog X.w) (X.A.deeper (envOfC qg sg s.heap.objs.size g cdg)) (.call (.ref f) ⟨[], []⟩) (CR (L2.CX X.prog X.w) (envOfC qg sg s.heap.objs.size g cdg :: X.stack) X.prog X.w H1 s1 Q E) s1 :=
    runD (X := X) I L M I1.env0 hr.hd hr.depth I1.nolimit un hc hbind (hbody _ _ s1 H1 (hr.deeper _)) ht
  refine PySem.W.callWith_F0 ⟨_, _, _, _, un.keep f _ hf M.nf M.ff (by simp)⟩ (wpAny_call (codeAny_mono rc fun r s' hq => ?_))
  cases r with
  | error e => exact passes_call (X := (cxOf CXg X.prog X.w X.K X.mg X.base Ng qg sg g cdg X.A X.stack s H Eg).tr pn xe) tk hW pinsZ σZ H1 s1 e s' I1 hq
  | ok fl =>
    cases fl with
    | ret u => exact I1.after hq
    | next => exact False.elim hq
    | brk => exact False.elim hq
    | cont => exact False.elim hq
/-- x(lambda an=i: body) -/
theorem pe_lamcallD {T : List (Addr × Str)} {TT : (XK → Hp → VK → Prop) → Hp → VK → Prop} {x a : Str} {g c P : Addr} {k : Nat} {pg : Arguments} {bg : List Stmt} {sg : Scope} {dV kV doc pm cdv ct oc : Value} {an' od : Option Addr} {osl : Array (Option Value)} {Ng : List Str} {i : Int} {j : Tok} {dp : Pos} {t : XK → TE} {p lpos pos : Pos}
    (hg : Gl X x) (hm : X.mg x = some (.ref g)) (hk : PySem.W.keepIn X.K (.ref g) = true) (lk : X.K.lookup g = some ⟨oc, od, .func (PySem.W.fnOf x x pg bg sg dV kV doc pm an' cdv ct), osl⟩) (hcg : PySem.W.codeIn X.K cdv x = true)
    (hb : L2.Binds X.K (PySem.W.fnOf x x pg bg sg dV kV doc pm an' cdv ct) [a] []) (Sg : FnScope Ng [a] sg) (hNg : Ng[0]? = some a) (hva : Vis sg a) (hG : GivesTo X Ng x sg g cdv bg a (lq X) TT)
    (TB : TabB X.base X.mg c P) (hcode : X.env.code = .ref c) (hmT : (P, lq X) ∈ T) (hu : ∀ p ∈ T, p.1 = P → p.2 = lq X) (hr : Room (k + 2) X.A) (L : LamDS X.env.scope scope an X.N) (hd : params.defaults = [.Constant (.int i) j dp]) (hk0 : params.kw_defaults = [])
    (hbind : ∀ (tk : Tok) (t : Addr) (q : Str) (cl : List (Str × Addr)) (doc pm cv ctv : Value), ∃ k, bindArgs (PySem.W.kdv_fn "<lambda>" q params (.expr body) scope cl (.ref t) doc pm cv ctv) ⟨[], []⟩ = seqItems? (.ref t) >>= k ∧ k (some #[.int i tk]) = pure [(an, .int i tk)])
    (hbody : ∀ (A : Around) (outer : List Env) (s : Shared) (H : Hp) (E : XK) (f c' : Addr), Room k (A.deeper (lamEnv X scope s.heap.objs.size f c')) → PE (lamCx X A outer s H E scope f c') body (t E))
    (hdb : (x == ("__debug__" : Str)) = false := by decide) (hda : (a == ("__debug__" : Str)) = false := by decide) (hcd : (a == ("__classdict__" : Str)) = false := by decide) : PE X (.Call (.Name x p) [.Lambda params body scope lpos] [] pos) (tLam T TT t) := by
  refine ⟨fun pins s σ H Q I ⟨hT, h⟩ => wpAny_Call_Name_kw (ld_glob I hg hm (PySem.W.callWith_K (h₀ := X.base) I.ok.mod.kin hk ?_ (by rfl) (by rfl)) hdb)⟩
  refine Calls.spliced_cons (made I TB hcode hmT hu hT L hd hk0 fun f c' t0 tk H1 s' I1 eN T1 M => Calls.spliced_nil ⟨I1.kIn, ?_⟩)
  refine wpAny_call (codeAny_mono (R := CR C8.CX0 X.stack X.prog X.w H1 s' Q C8.E0) ?_ fun r s2 hq => ?_)
  · refine run_ofS (N := Ng) (ps := [a]) (us := [.ref f]) (vs := [.ref f]) lk hcg Sg hr I1.env0 (hb s' [.ref f] I1.kIn rfl) (.cons rfl .nil) rfl fun hr' => ?_
    obtain ⟨tg, h1, h2⟩ := hG f c' s' H1 Q (fun E H' Q' => t E σ H' Q') (fun W pn xe E p1 p2 tk' hW => pe_act0 (i := 0) I1 L M (fun doc pm ctv => hbind tk t0 _ _ doc pm _ ctv) tk' hW hr' (fun A outer s H hr2 => hbody A outer s H E f c' hr2) hNg hva hda hcd) M.code (h H1 eN T1)
    exact ⟨tg, h1.nox, h2⟩
  · cases r with
    | error e => exact (show False from hq).elim
    | ok fl =>
      cases fl with
      | ret u => exact I1.after hq
      | next => exact False.elim hq
      | brk => exact False.elim hq
      | cont => exact False.elim hq
end
end LamD

/-! a lambda with a written default as a value: its objects are tracked -/
namespace LamD
open PySem PySem.Spec PyProof.Rows L2 LamX
/-- at f stands the object o -/
def FnO (f : Addr) (o : Obj) : HO := .ext fun h => h.get? f = some o
theorem fnO_ok {P : Program} {w : World} {H : Hp} {h : Heap} {f : Addr} {o : Obj} (e : h.get? f = some o) : ObjOk P w H h f (FnO f o) := ⟨e, ⟨_, e⟩, fun h1 h2 z k => k _ z⟩
theorem fnO_at {P : Program} {w : World} {H : Hp} {h : Heap} {f : Addr} {o : Obj} (hok : HOk P w H h) (e : H f = some (FnO f o)) : h.get? f = some o := by
  have x : ObjOk P w H h f (.ext fun h => h.get? f = some o) := hok f _ e
  exact x.1
/-- the function at f, its default's tuple at t, its code object at c: all tracked -/
structure Laid (X : Cx) (params : Arguments) (body : Expr) (scope : Scope) (f c t : Addr) (i : Int) (H : Hp) : Prop where
  fn : ∃ doc pm ctv, H f = some (FnO f (PySem.W.kdv_obj "<lambda>" (lq X) params (.expr body) scope (lcl X scope) (.ref t) doc pm c ctv))
  tup : H t = some (.tup [.int i])
  code : H c = some (CodeO c (lq X))
section
variable {X : Cx} {pins : List (Addr × Obj)} {σ : L2.St} {H : Hp} {s : Shared} {params : Arguments} {body : Expr} {scope : Scope} {an : Str}
theorem laid {T : List (Addr × Str)} {c P : Addr} {pos dp : Pos} {i : Int} {j : Tok} {E : Value → Shared → Prop} {Q : Value → Shared → Prop} (I : Inv X pins σ H s) (TB : TabB X.base X.mg c P) (hcode : X.env.code = .ref c) (hm : (P, lq X) ∈ T) (hu : ∀ p ∈ T, p.1 = P → p.2 = lq X)
    (hT : Tabs T H) (L : LamDS X.env.scope scope an X.N) (hd : params.defaults = [.Constant (.int i) j dp]) (hk0 : params.kw_defaults = [])
    (h : ∀ (f c' t : Addr) (H1 : Hp) (s' : Shared), Inv X pins σ H1 s' → ExtN H H1 → Tabs T H1 → H f = none → H t = none → Laid X params body scope f c' t i H1 → Q (.ref f) s') :
    wpAny (model X.prog X.w) X.A (eval (.Lambda params body scope pos) X.env) Q E s := by
  obtain ⟨hp, g, d, tk, os⟩ := s
  refine PySem.W.kdv_lam (by rw [hd]; rfl) hk0 ?_
  rw [hd]
  refine PySem.W.kdv_all1 (wpAny_Constant_int (PySem.W.kdv_all0 ?_))
  rw [makeFunction_eq]
  simp only [List.zip_nil_right, List.filterMap_nil, List.isEmpty_nil, if_true, pure_bind, List.isEmpty_cons, Bool.false_eq_true, if_false]
  refine wpAny_bind (wpAny_newTextTuple ?_)
  have hn0 : H hp.objs.size = none := I.hok.fresh (Nat.le_refl _)
  have I1 : Inv X pins σ (upd H hp.objs.size (.tup [.int i])) ⟨hp.push (PySem.W.kdv_tup [.int i tk]), g, d, tk + 1, os⟩ := I.laid (t' := tk + 1) (fun b o e => Heap.get?_push_of_some _ e) (Nat.le_refl _)
    (show ObjOk X.prog X.w _ _ _ (.tup [.int i]) from ⟨by show 1 ≤ sizeLine; decide, [.int i tk], .cons ⟨tk, rfl⟩ .nil, IsTup.new _ _⟩)
  have sz1 : (hp.push (PySem.W.kdv_tup [.int i tk])).objs.size = hp.objs.size + 1 := Heap.size_push ..
  have e1 : ∀ b o, H b = some o → upd H hp.objs.size (.tup [.int i]) b = some o := fun b o e => by
    rw [upd_ne (ne_of_none e hn0)]
    exact e
  have T0 : Tabs T (upd H hp.objs.size (.tup [.int i])) := hT.ext e1
  obtain ⟨ps, hP, ht, ha⟩ := T0 _ hm
  have atP : (hp.push (PySem.W.kdv_tup [.int i tk])).get? P = some { cls := .none, data := .fields ps } := I1.hok P _ hP
  have bP : (hp.push (PySem.W.kdv_tup [.int i tk])).BuiltinsAt X.mg P := TB.bm.keeps I1.bk
  have clo := closure_ok (has_free L I.ok)
  cases hc : codeAmong pos ps.toList with
  | some cv =>
    obtain ⟨c', rfl, hco⟩ := ha pos cv hc
    refine PySem.W.kdv_makeTailHit (mg := X.mg) (c := c) (P := P) (ps := ps) clo I.ok.glob (I1.mod.glob.keeps I1.bk) hcode (TB.code.keeps I1.bk) atP ht hc bP fun ctv doc h' tk' hx hsz => ?_
    have I2 : Inv X pins σ (upd H hp.objs.size (.tup [.int i])) ⟨h', g, d, tk', os⟩ := I1.kept (t' := tk') hx
    have up : hp.objs.size < h'.objs.size := Nat.lt_of_lt_of_le (by rw [sz1]; omega) hsz
    have nf : upd H hp.objs.size (.tup [.int i]) h'.objs.size = none := I2.hok.fresh (Nat.le_refl _)
    have at0 : ∀ o : HO, upd (upd H hp.objs.size (.tup [.int i])) h'.objs.size o hp.objs.size = some (.tup [.int i]) := fun o => by rw [upd_ne (Nat.ne_of_lt up), upd_same]
    refine h h'.objs.size c' hp.objs.size _ _ (I2.laid (t' := tk') (fun b o e => Heap.get?_push_of_some _ e) (Nat.le_refl _) (fnO_ok (Heap.get?_push_size _ rfl))) (fun b o e _ => ?_) (T0.ext fun b o e => ?_) (I.hok.fresh (Nat.le_of_lt up)) hn0 ⟨⟨_, _, _, upd_same⟩, at0 _, ?_⟩
    · rw [upd_ne (ne_of_none (e1 b o e) nf)]
      exact e1 b o e
    · rw [upd_ne (ne_of_none e nf)]
      exact e
    · rw [upd_ne (ne_of_none hco nf)]
      exact hco
  | none =>
    refine PySem.W.kdv_makeTail (mg := X.mg) (c := c) (P := P) (ps := ps) clo I.ok.glob (I1.mod.glob.keeps I1.bk) hcode (TB.code.keeps I1.bk) atP ht hc TB.gP bP fun c' ctv doc h' tk' hx hge hlt hrec htb => ?_
    obtain ⟨_, oc, vs, t, e2, hoc, hdc, hvc⟩ := hrec
    cases e2
    have nC : upd H hp.objs.size (.tup [.int i]) c' = none := I1.hok.fresh hge
    obtain ⟨eN, T1⟩ := tabs_add (pos := pos) T0 hu hP ht ha nC
    have I2 := inv_table (t' := tk') (more := #[rawInt pos.line, rawInt pos.col, .ref c']) (h' := h') I1 hP hx htb hge ⟨oc, vs, t, hoc, hdc, hvc⟩
    have up : hp.objs.size < h'.objs.size := Nat.lt_of_lt_of_le (by rw [sz1]; omega) (Nat.le_trans hge (Nat.le_of_lt hlt))
    have nf := I2.hok.fresh (Nat.le_refl h'.objs.size)
    have tup1 := eN hp.objs.size _ upd_same (fun _ z => by cases z)
    refine h h'.objs.size c' hp.objs.size _ _ (I2.laid (t' := tk') (fun b o e => Heap.get?_push_of_some _ e) (Nat.le_refl _) (fnO_ok (Heap.get?_push_size _ rfl))) (fun b o e n => ?_) (T1.ext fun b o e => ?_) (I.hok.fresh (Nat.le_of_lt up)) hn0 ⟨⟨_, _, _, upd_same⟩, ?_, ?_⟩
    · have e3 := eN b o (e1 b o e) n
      rw [upd_ne (ne_of_none e3 nf)]
      exact e3
    · rw [upd_ne (ne_of_none e nf)]
      exact e
    · rw [upd_ne (ne_of_none tup1 nf)]
      exact tup1
    · have e3 : upd (upd (upd H hp.objs.size (.tup [.int i])) P (.tbl (ps ++ #[rawInt pos.line, rawInt pos.col, .ref c']))) c' (CodeO c' (lq X)) c' = some (CodeO c' (lq X)) := upd_same
      rw [upd_ne (ne_of_none e3 nf)]
      exact e3
/-- the tracked function called, with nothing handed in -/
theorem runT {HZ : Hp} {s1 : Shared} {A : Around} {outer : List Env} {E : XK} {f c' t : Addr} {i : Int} {Q : VK} {tb : TE} (I : Inv X pins σ H s) (L : LamDS X.env.scope scope an X.N) (M : Laid X params body scope f c' t i HZ) (e0 : Env0 X.prog X.w X.K X.mg X.base A outer s1 HZ) (hd : A.handled = none) (hdep : A.depth < recursionLimit) (lim : s1.heap.NoLimit)
    (un : Un (frs X.stack) [] H HZ s.heap s1.heap) (hbind : ∀ (tk : Tok) (doc pm ctv : Value), ∃ k, bindArgs (PySem.W.kdv_fn "<lambda>" (lq X) params (.expr body) scope (lcl X scope) (.ref t) doc pm (.ref c') ctv) ⟨[], []⟩ = seqItems? (.ref t) >>= k ∧ k (some #[.int i tk]) = pure [(an, .int i tk)])
    (hbody : PE (lamCx X A outer s1 HZ E scope f c') body tb) (h : tb σ HZ Q) : codeAny (model X.prog X.w) A (.call (.ref f) ⟨[], []⟩) (CR (L2.CX X.prog X.w) outer X.prog X.w HZ s1 Q E) s1 := by
  obtain ⟨doc, pm, ctv, hf⟩ := M.fn
  have hf1 := fnO_at e0.hok hf
  obtain ⟨⟨oc, vs, tq, hoc, hdc, hvc⟩, _, _⟩ := e0.hok c' _ M.code
  have ht : ObjOk X.prog X.w HZ s1.heap t (.tup [.int i]) := e0.hok t _ M.tup
  obtain ⟨_, its, rv, ho⟩ := ht
  cases rv with
  | @cons _ u _ us ru rn =>
  cases rn
  obtain ⟨tk, rfl⟩ := ru
  obtain ⟨k, k1, k2⟩ := hbind tk doc pm ctv
  have B : BindsTo s1 (PySem.W.kdv_fn "<lambda>" (lq X) params (.expr body) scope (lcl X scope) (.ref t) doc pm (.ref c') ctv) ⟨[], []⟩ [(an, .int i tk)] := by
    obtain ⟨o, ho1, _, n, ho2⟩ := ho
    exact BindsTo.of_defaults rfl ho1 ho2 k1 k2
  refine PySem.W.kla_callFunE hdep hf1 rfl L.co L.gen rfl ⟨c', oc, vs, tq, rfl, hoc, hdc, hvc⟩ (B _ _ _ _ ?_)
  refine wpAny_newFunctionEnv L.nocell (fun y hy => by rw [List.mem_singleton.mp hy]; exact L.par) (fun h₁ hns hsb => ⟨lim.fresh _ hsb, ?_⟩) L.kind
  have kp : ∀ b o, s1.heap.get? b = some o → h₁.get? b = some o := fun b o e => hsb.extBut b o (Nat.ne_of_lt (Heap.lt_size e)) (Heap.get?_push_of_some _ e)
  have J : Inv (lamCx X A outer s1 HZ E scope f c') [] σ HZ { s1 with heap := h₁, toks := s1.toks + ([(an, Value.int i tk)] : List (Str × Value)).length } := enter I L e0 hd un hns kp
  show codeAny _ _ (.expr body (lamEnv X scope s1.heap.objs.size f c')) _ _
  refine PySem.W.kla_codeExpr (wpAny_mono (hbody.run [] _ _ HZ Q J h) (fun u s' hq => ?_) fun _ _ z => z)
  obtain ⟨w, H', J', rv, q⟩ := hq
  exact ⟨w, H', J'.os, J'.bare, J'.base, J'.hok, rv, q⟩
/-- a(), in the def that got the tracked function -/
theorem pe_actT {CXg : CXT} {Eg : XK} {Ng : List Str} {qg a : Str} {sg : Scope} {g f c' t : Addr} {cdg : Value} {i0 : Int} {k i : Nat} {pn : List (Addr × Obj)} {xe : Value → Shared → Prop} {W : WX} {E : XK} {tb : TE} {p1 p2 : Pos} (I : Inv X pins σ H s) (L : LamDS X.env.scope scope an X.N)
    (hbind : ∀ (tk : Tok) (doc pm ctv : Value), ∃ k, bindArgs (PySem.W.kdv_fn "<lambda>" (lq X) params (.expr body) scope (lcl X scope) (.ref t) doc pm (.ref c') ctv) ⟨[], []⟩ = seqItems? (.ref t) >>= k ∧ k (some #[.int i0 tk]) = pure [(an, .int i0 tk)])
    (tk : Takes ((cxOf CXg X.prog X.w X.K X.mg X.base Ng qg sg g cdg X.A X.stack s H Eg).tr pn xe) W) (hW : ∀ cls d σ' H', E cls d H' → W cls d σ' H') (hr : Room (k + 1) (X.A.deeper (envOfC qg sg s.heap.objs.size g cdg)))
    (hbody : ∀ (A : Around) (outer : List Env) (s : Shared) (H : Hp), Room k (A.deeper (lamEnv X scope s.heap.objs.size f c')) → PE (lamCx X A outer s H E scope f c') body tb) (hN : Ng[i]? = some a) (hv : Vis sg a) (hda : (a == ("__debug__" : Str)) = false := by decide) (hcd : (a == ("__classdict__" : Str)) = false := by decide) :
    PE ((cxOf CXg X.prog X.w X.K X.mg X.base Ng qg sg g cdg X.A X.stack s H Eg).tr pn xe) (.Call (.Name a p1) [] [] p2) (fun σZ HZ Q => σZ[i]? = some (some (.ref f)) ∧ HZ c' = some (CodeO c' (lq X)) ∧ Laid X params body scope f c' t i0 HZ ∧ tb σ HZ Q) := by
  refine ⟨fun pinsZ sZ σZ HZ Q IZ ⟨hs, _, M, ht⟩ => ?_⟩
  refine wpAny_Call_Name_kw (thn ((pe_var (pos := p1) (i := i) hN hv hda hcd).run pinsZ sZ σZ HZ (fun u H1 => u = .ref f ∧ H1 = HZ) IZ ⟨.ref f, hs, rfl, rfl⟩) fun u s1 ⟨x, H1, I1, r1, ex, eH⟩ => ?_)
  subst ex
  subst eH
  obtain rfl : u = Value.ref f := r1
  have un : Un (frs X.stack) [] H H1 s.heap s1.heap := I1.base
  obtain ⟨_, _, _, hf⟩ := M.fn
  have rc : codeAny (model X.prog X.w) (X.A.deeper (envOfC qg sg s.heap.objs.size g cdg)) (.call (.ref f) ⟨[], []⟩) (CR (L2.CX X.prog X.w) (envOfC qg sg s.heap.objs.size g cdg :: X.stack) X.prog X.w H1 s1 Q E) s1 :=
    runT (X := X) I L M I1.env0 hr.hd hr.depth I1.nolimit un hbind (hbody _ _ s1 H1 (hr.deeper _)) ht
  refine PySem.W.callWith_F0 ⟨_, _, _, _, fnO_at I1.hok hf⟩ (wpAny_call (codeAny_mono rc fun r s' hq => ?_))
  cases r with
  | error e => exact passes_call (X := (cxOf CXg X.prog X.w X.K X.mg X.base Ng qg sg g cdg X.A X.stack s H Eg).tr pn xe) tk hW pinsZ σZ H1 s1 e s' I1 hq
  | ok fl =>
    cases fl with
    | ret u => exact I1.after hq
    | next => exact False.elim hq
    | brk => exact False.elim hq
    | cont => exact False.elim hq
/-- what is known of a lambda before it is made -/
structure LamF (X : Cx) (k : Nat) where
  params : Arguments
  body : Expr
  scope : Scope
  an : Str
  i : Int
  t : XK → TE
  L : LamDS X.env.scope scope an X.N
  bind : ∀ (tk : Tok) (t : Addr) (q : Str) (cl : List (Str × Addr)) (doc pm cv ctv : Value), ∃ k, bindArgs (PySem.W.kdv_fn "<lambda>" q params (.expr body) scope cl (.ref t) doc pm cv ctv) ⟨[], []⟩ = seqItems? (.ref t) >>= k ∧ k (some #[.int i tk]) = pure [(an, .int i tk)]
  run : ∀ (A : Around) (outer : List Env) (s : Shared) (H : Hp) (E : XK) (f c' : Addr), Room k (A.deeper (lamEnv X scope s.heap.objs.size f c')) → PE (lamCx X A outer s H E scope f c') body (t E)
/-- x(e), e a tracked function -/
def tWordV (X : Cx) (k : Nat) (TT : (XK → Hp → VK → Prop) → Hp → VK → Prop) (ta : TA) : TE := fun σ H Q => ta σ H fun vs H1 => ∃ (F : LamF X k) (f c t : Addr), vs = [.ref f] ∧ Laid X F.params F.body F.scope f c t F.i H1 ∧ TT (fun E H' Q' => Laid X F.params F.body F.scope f c t F.i H' ∧ F.t E σ H' Q') H1 Q
theorem pe_wordV {TT : (XK → Hp → VK → Prop) → Hp → VK → Prop} {x a : Str} {g : Addr} {k : Nat} {pg : Arguments} {bg : List Stmt} {sg : Scope} {dV kV doc pm cdv ct oc : Value} {an' od : Option Addr} {osl : Array (Option Value)} {Ng : List Str} {e : Expr} {ta : TA} {p pos : Pos}
    (hg : Gl X x) (hm : X.mg x = some (.ref g)) (hk : PySem.W.keepIn X.K (.ref g) = true) (lk : X.K.lookup g = some ⟨oc, od, .func (PySem.W.fnOf x x pg bg sg dV kV doc pm an' cdv ct), osl⟩) (hcg : PySem.W.codeIn X.K cdv x = true)
    (hb : L2.Binds X.K (PySem.W.fnOf x x pg bg sg dV kV doc pm an' cdv ct) [a] []) (Sg : FnScope Ng [a] sg) (hNg : Ng[0]? = some a) (hva : Vis sg a) (hG : GivesTo X Ng x sg g cdv bg a (lq X) TT) (hr : Room (k + 2) X.A) (ha : PA X [e] ta)
    (he : starEach [e] X.env = (false, eval e X.env) :: starEach [] X.env := by rfl) (hpl : (backTo pos (starEach [] X.env)).any (·.1) = false := by rfl) (hdb : (x == ("__debug__" : Str)) = false := by decide) (hda : (a == ("__debug__" : Str)) = false := by decide) (hcd : (a == ("__classdict__" : Str)) = false := by decide) :
    PE X (.Call (.Name x p) [e] [] pos) (tWordV X k TT ta) := by
  refine ⟨fun pins s σ H Q I h => wpAny_Call_Name_kw (ld_glob I hg hm ?_ hdb)⟩
  refine PySem.W.callWith_K (h₀ := X.base) I.ok.mod.kin hk (thn (ha.run pos pins s σ H _ I h) fun us s' ⟨vs, H1, I1, r1, F, f, c', t0, ev, M, hq⟩ => ⟨I1.kIn, ?_⟩) he hpl
  subst ev
  cases r1 with
  | @cons _ u _ us r rn =>
  cases rn
  obtain rfl : u = Value.ref f := r
  refine wpAny_call (codeAny_mono (R := CR C8.CX0 X.stack X.prog X.w H1 s' Q C8.E0) ?_ fun r s2 hq => ?_)
  · refine run_ofS (N := Ng) (ps := [a]) (us := [.ref f]) (vs := [.ref f]) lk hcg Sg hr I1.env0 (hb s' [.ref f] I1.kIn rfl) (.cons rfl .nil) rfl fun hr' => ?_
    obtain ⟨tg, h1, h2⟩ := hG f c' s' H1 Q (fun E H' Q' => Laid X F.params F.body F.scope f c' t0 F.i H' ∧ F.t E σ H' Q') (fun W pn xe E p1 p2 tk' hW => pe_actT (i := 0) I1 F.L (fun tk doc pm ctv => F.bind tk t0 _ _ doc pm _ ctv) tk' hW hr' (fun A outer s H hr2 => F.run A outer s H E f c' hr2) hNg hva hda hcd) M.code hq
    exact ⟨tg, h1.nox, h2⟩
  · cases r with
    | error e => exact (show False from hq).elim
    | ok fl =>
      cases fl with
      | ret u => exact I1.after hq
      | next => exact False.elim hq
      | brk => exact False.elim hq
      | cont => exact False.elim hq
/-- a lambda as a value -/
def tLamV (X : Cx) (k : Nat) (T : List (Addr × Str)) (F : LamF X k) : TE := fun _ H Q => Tabs T H ∧ ∀ (f c t : Addr) (H1 : Hp), ExtN H H1 → Tabs T H1 → H f = none → H t = none → Laid X F.params F.body F.scope f c t F.i H1 → Q (.ref f) H1
theorem pe_lamV {T : List (Addr × Str)} {c P : Addr} {k : Nat} {j : Tok} {pos dp : Pos} (F : LamF X k) (TB : TabB X.base X.mg c P) (hcode : X.env.code = .ref c) (hm : (P, lq X) ∈ T) (hu : ∀ p ∈ T, p.1 = P → p.2 = lq X) (hd : F.params.defaults = [.Constant (.int F.i) j dp]) (hk0 : F.params.kw_defaults = []) :
    PE X (.Lambda F.params F.body F.scope pos) (tLamV X k T F) :=
  ⟨fun pins s σ H Q I ⟨hT, h⟩ => laid I TB hcode hm hu hT F.L hd hk0 fun f c' t H1 s' I1 eN T1 nf nt M => ⟨.ref f, H1, I1, rfl, h f c' t H1 eN T1 nf nt M⟩⟩
end
end LamD

/-! a lambda without parameters as a value: its objects are tracked -/
namespace LamD
open PySem PySem.Spec PyProof.Rows L2 LamX
structure Laid0 (X : Cx) (params : Arguments) (body : Expr) (scope : Scope) (f c : Addr) (H : Hp) : Prop where
  fn : ∃ pm ctv, H f = some (FnO f (PySem.W.kla_obj "<lambda>" (lq X) params body scope (lcl X scope) pm c ctv))
  code : H c = some (CodeO c (lq X))
section
variable {X : Cx} {pins : List (Addr × Obj)} {σ : L2.St} {H : Hp} {s : Shared} {params : Arguments} {body : Expr} {scope : Scope}
theorem laid0 {T : List (Addr × Str)} {c P : Addr} {pos : Pos} {E : Value → Shared → Prop} {Q : Value → Shared → Prop} (I : Inv X pins σ H s) (TB : TabB X.base X.mg c P) (hcode : X.env.code = .ref c) (hm : (P, lq X) ∈ T) (hu : ∀ p ∈ T, p.1 = P → p.2 = lq X)
    (hT : Tabs T H) (L : LamS X.env.scope scope) (hdef : defaultsOf params X.env = ([], [])) (h : ∀ (f c' : Addr) (H1 : Hp) (s' : Shared), Inv X pins σ H1 s' → ExtN H H1 → Tabs T H1 → H f = none → Laid0 X params body scope f c' H1 → Q (.ref f) s') :
    wpAny (model X.prog X.w) X.A (eval (.Lambda params body scope pos) X.env) Q E s := by
  obtain ⟨hp, g, d, tk, os⟩ := s
  refine PySem.W.kla_eval hdef ?_
  obtain ⟨ps, hP, ht, ha⟩ := hT _ hm
  have atP : hp.get? P = some { cls := .none, data := .fields ps } := I.hok P _ hP
  have bP : hp.BuiltinsAt X.mg P := TB.bm.keeps I.bk
  have clo := closure_ok (L.has I.ok)
  cases hc : codeAmong pos ps.toList with
  | some cv =>
    obtain ⟨c', rfl, hco⟩ := ha pos cv hc
    refine PySem.W.kla_makeFunctionHit (mg := X.mg) (c := c) (P := P) (ps := ps) clo I.ok.glob (I.mod.glob.keeps I.bk) hcode (TB.code.keeps I.bk) atP ht hc bP fun ctv h' tk' hx hsz => ?_
    have I2 : Inv X pins σ H ⟨h', g, d, tk', os⟩ := I.kept (t' := tk') hx
    have nf : H h'.objs.size = none := I2.hok.fresh (Nat.le_refl _)
    exact h h'.objs.size c' _ _ (I2.laid (t' := tk') (fun b o e => Heap.get?_push_of_some _ e) (Nat.le_refl _) (fnO_ok (Heap.get?_push_size _ rfl))) (fun b o e _ => by rw [upd_ne (ne_of_none e nf)]; exact e) (hT.ext fun b o e => by rw [upd_ne (ne_of_none e nf)]; exact e) nf
      ⟨⟨_, _, upd_same⟩, by rw [upd_ne (ne_of_none hco nf)]; exact hco⟩
  | none =>
    refine PySem.W.kla_makeFunction (mg := X.mg) (c := c) (P := P) (ps := ps) clo I.ok.glob (I.mod.glob.keeps I.bk) hcode (TB.code.keeps I.bk) atP ht hc TB.gP bP fun c' ctv h' tk' hx hge hlt hrec htb => ?_
    obtain ⟨_, oc, vs, t, e2, hoc, hdc, hvc⟩ := hrec
    cases e2
    have nC : H c' = none := I.hok.fresh hge
    obtain ⟨eN, T1⟩ := tabs_add (pos := pos) hT hu hP ht ha nC
    have I2 := inv_table (t' := tk') (more := #[rawInt pos.line, rawInt pos.col, .ref c']) (h' := h') I hP hx htb hge ⟨oc, vs, t, hoc, hdc, hvc⟩
    have nf := I2.hok.fresh (Nat.le_refl h'.objs.size)
    have e3 : upd (upd H P (.tbl (ps ++ #[rawInt pos.line, rawInt pos.col, .ref c']))) c' (CodeO c' (lq X)) c' = some (CodeO c' (lq X)) := upd_same
    exact h h'.objs.size c' _ _ (I2.laid (t' := tk') (fun b o e => Heap.get?_push_of_some _ e) (Nat.le_refl _) (fnO_ok (Heap.get?_push_size _ rfl))) (fun b o e n => by rw [upd_ne (ne_of_none (eN b o e n) nf)]; exact eN b o e n) (T1.ext fun b o e => by rw [upd_ne (ne_of_none e nf)]; exact e)
      (I.hok.fresh (Nat.le_trans hge (Nat.le_of_lt hlt))) ⟨⟨_, _, upd_same⟩, by rw [upd_ne (ne_of_none e3 nf)]; exact e3⟩
theorem runT0 {HZ : Hp} {s1 : Shared} {A : Around} {outer : List Env} {E : XK} {f c' : Addr} {Q : VK} {tb : TE} (I : Inv X pins σ H s) (L : LamS X.env.scope scope) (M : Laid0 X params body scope f c' HZ) (e0 : Env0 X.prog X.w X.K X.mg X.base A outer s1 HZ) (hd : A.handled = none) (hdep : A.depth < recursionLimit) (lim : s1.heap.NoLimit)
    (un : Un (frs X.stack) [] H HZ s.heap s1.heap) (hbind : ∀ (pm ctv : Value), bindArgs (PySem.W.kla_fn "<lambda>" (lq X) params body scope (lcl X scope) pm (.ref c') ctv) ⟨[], []⟩ = pure [])
    (hbody : PE (lamCx X A outer s1 HZ E scope f c') body tb) (h : tb σ HZ Q) : codeAny (model X.prog X.w) A (.call (.ref f) ⟨[], []⟩) (CR (L2.CX X.prog X.w) outer X.prog X.w HZ s1 Q E) s1 := by
  obtain ⟨pm, ctv, hf⟩ := M.fn
  have hf1 := fnO_at e0.hok hf
  obtain ⟨⟨oc, vs, tq, hoc, hdc, hvc⟩, _, _⟩ := e0.hok c' _ M.code
  have B : BindsTo s1 (PySem.W.kla_fn "<lambda>" (lq X) params body scope (lcl X scope) pm (.ref c') ctv) ⟨[], []⟩ [] := BindsTo.of_eq (hbind pm ctv)
  refine PySem.W.kla_callFunE hdep hf1 rfl L.co L.gen rfl ⟨c', oc, vs, tq, rfl, hoc, hdc, hvc⟩ (B _ _ _ _ ?_)
  refine wpAny_newFunctionEnv (fun y hy => (L.own y hy).2) (fun y hy => absurd hy (by simp)) (fun h₁ hns hsb => ⟨lim.fresh _ hsb, ?_⟩) L.kind
  have kp : ∀ b o, s1.heap.get? b = some o → h₁.get? b = some o := fun b o e => hsb.extBut b o (Nat.ne_of_lt (Heap.lt_size e)) (Heap.get?_push_of_some _ e)
  have J : Inv (lamCx X A outer s1 HZ E scope f c') [] σ HZ { s1 with heap := h₁, toks := s1.toks + ([] : List (Str × Value)).length } := lam_start2 I L e0 hd un hns kp
  show codeAny _ _ (.expr body (lamEnv X scope s1.heap.objs.size f c')) _ _
  refine PySem.W.kla_codeExpr (wpAny_mono (hbody.run [] _ _ HZ Q J h) (fun u s' hq => ?_) fun _ _ z => z)
  obtain ⟨w, H', J', rv, q⟩ := hq
  exact ⟨w, H', J'.os, J'.bare, J'.base, J'.hok, rv, q⟩
end
end LamD

/-! lambdas of either sort, as values, handed to a def later -/
namespace LamD
open PySem PySem.Spec PyProof.Rows L2 LamX
/-- what is known of a lambda before it is made: t its reading, At what is tracked of it -/
structure LamG (X : Cx) (k : Nat) where
  t : XK → TE
  At : Addr → Addr → Hp → Prop
  code : ∀ {f c : Addr} {H : Hp}, At f c H → H c = some (CodeO c (lq X))
  fo : ∀ {f c : Addr} {H : Hp}, At f c H → ∃ (oc : Value) (od : Option Addr) (fd : FuncData) (sl : Array (Option Value)), H f = some (FnO f ⟨oc, od, .func fd, sl⟩)
  run : ∀ {pins : List (Addr × Obj)} {σ : L2.St} {H HZ : Hp} {s s1 : Shared} {A : Around} {outer : List Env} {E : XK} {f c : Addr} {Q : VK}, Inv X pins σ H s → At f c HZ → Env0 X.prog X.w X.K X.mg X.base A outer s1 HZ → A.handled = none → A.depth < recursionLimit → s1.heap.NoLimit → Un (frs X.stack) [] H HZ s.heap s1.heap →
    (∀ env, Room k (A.deeper env)) → t E σ HZ Q → codeAny (model X.prog X.w) A (.call (.ref f) ⟨[], []⟩) (CR (L2.CX X.prog X.w) outer X.prog X.w HZ s1 Q E) s1
section
variable {X : Cx} {k : Nat}
def LamF.g (F : LamF X k) : LamG X k where
  t := F.t
  At := fun f c H => ∃ t, Laid X F.params F.body F.scope f c t F.i H
  code := fun ⟨_, M⟩ => M.code
  fo := fun ⟨_, M⟩ => by
    obtain ⟨_, _, _, e⟩ := M.fn
    exact ⟨_, _, _, _, e⟩
  run := fun I ⟨t, M⟩ e0 hd hdep lim un hr h => runT I F.L M e0 hd hdep lim un (fun tk doc pm ctv => F.bind tk t _ _ doc pm _ ctv) (F.run _ _ _ _ _ _ _ (hr _)) h
/-- a lambda without parameters -/
def LamG.plain {params : Arguments} {body : Expr} {scope : Scope} (t : XK → TE) (L : LamS X.env.scope scope) (hbind : ∀ (q : Str) (cl : List (Str × Addr)) (pm cv ctv : Value), bindArgs (PySem.W.kla_fn "<lambda>" q params body scope cl pm cv ctv) ⟨[], []⟩ = pure [])
    (hbody : ∀ (A : Around) (outer : List Env) (s : Shared) (H : Hp) (E : XK) (f c' : Addr), Room k (A.deeper (lamEnv X scope s.heap.objs.size f c')) → PE (lamCx X A outer s H E scope f c') body (t E)) : LamG X k where
  t := t
  At := fun f c H => Laid0 X params body scope f c H
  code := fun M => M.code
  fo := fun M => by
    obtain ⟨_, _, e⟩ := M.fn
    exact ⟨_, _, _, _, e⟩
  run := fun I M e0 hd hdep lim un hr h => runT0 I L M e0 hd hdep lim un (fun pm ctv => hbind _ _ pm _ ctv) (hbody _ _ _ _ _ _ _ (hr _)) h
variable {pins : List (Addr × Obj)} {σ : L2.St} {H : Hp} {s : Shared}
theorem pe_actG {CXg : CXT} {Eg : XK} {Ng : List Str} {qg a : Str} {sg : Scope} {g f c' : Addr} {cdg : Value} {i : Nat} {pn : List (Addr × Obj)} {xe : Value → Shared → Prop} {W : WX} {E : XK} {p1 p2 : Pos} (F : LamG X k) (I : Inv X pins σ H s)
    (tk : Takes ((cxOf CXg X.prog X.w X.K X.mg X.base Ng qg sg g cdg X.A X.stack s H Eg).tr pn xe) W) (hW : ∀ cls d σ' H', E cls d H' → W cls d σ' H') (hr : Room (k + 1) (X.A.deeper (envOfC qg sg s.heap.objs.size g cdg))) (hN : Ng[i]? = some a) (hv : Vis sg a)
    (hda : (a == ("__debug__" : Str)) = false := by decide) (hcd : (a == ("__classdict__" : Str)) = false := by decide) :
    PE ((cxOf CXg X.prog X.w X.K X.mg X.base Ng qg sg g cdg X.A X.stack s H Eg).tr pn xe) (.Call (.Name a p1) [] [] p2) (fun σZ HZ Q => σZ[i]? = some (some (.ref f)) ∧ HZ c' = some (CodeO c' (lq X)) ∧ F.At f c' HZ ∧ F.t E σ HZ Q) := by
  refine ⟨fun pinsZ sZ σZ HZ Q IZ ⟨hs, _, M, ht⟩ => ?_⟩
  refine wpAny_Call_Name_kw (thn ((pe_var (pos := p1) (i := i) hN hv hda hcd).run pinsZ sZ σZ HZ (fun u H1 => u = .ref f ∧ H1 = HZ) IZ ⟨.ref f, hs, rfl, rfl⟩) fun u s1 ⟨x, H1, I1, r1, ex, eH⟩ => ?_)
  subst ex
  subst eH
  obtain rfl : u = Value.ref f := r1
  have un : Un (frs X.stack) [] H H1 s.heap s1.heap := I1.base
  obtain ⟨_, _, _, _, hf⟩ := F.fo M
  have rc : codeAny (model X.prog X.w) (X.A.deeper (envOfC qg sg s.heap.objs.size g cdg)) (.call (.ref f) ⟨[], []⟩) (CR (L2.CX X.prog X.w) (envOfC qg sg s.heap.objs.size g cdg :: X.stack) X.prog X.w H1 s1 Q E) s1 :=
    F.run I M I1.env0 hr.hd hr.depth I1.nolimit un (fun env => hr.deeper env) ht
  refine PySem.W.callWith_F0 ⟨_, _, _, _, fnO_at I1.hok hf⟩ (wpAny_call (codeAny_mono rc fun r s' hq => ?_))
  cases r with
  | error e => exact passes_call (X := (cxOf CXg X.prog X.w X.K X.mg X.base Ng qg sg g cdg X.A X.stack s H Eg).tr pn xe) tk hW pinsZ σZ H1 s1 e s' I1 hq
  | ok fl =>
    cases fl with
    | ret u => exact I1.after hq
    | next => exact False.elim hq
    | brk => exact False.elim hq
    | cont => exact False.elim hq
/-- x(e), e a tracked function of either sort -/
def tWordG (X : Cx) (k : Nat) (TT : (XK → Hp → VK → Prop) → Hp → VK → Prop) (ta : TA) : TE := fun σ H Q => ta σ H fun vs H1 => ∃ (F : LamG X k) (f c : Addr), vs = [.ref f] ∧ F.At f c H1 ∧ TT (fun E H' Q' => F.At f c H' ∧ F.t E σ H' Q') H1 Q
theorem pe_wordG {TT : (XK → Hp → VK → Prop) → Hp → VK → Prop} {x a : Str} {g : Addr} {pg : Arguments} {bg : List Stmt} {sg : Scope} {dV kV doc pm cdv ct oc : Value} {an' od : Option Addr} {osl : Array (Option Value)} {Ng : List Str} {e : Expr} {ta : TA} {p pos : Pos}
    (hg : Gl X x) (hm : X.mg x = some (.ref g)) (hk : PySem.W.keepIn X.K (.ref g) = true) (lk : X.K.lookup g = some ⟨oc, od, .func (PySem.W.fnOf x x pg bg sg dV kV doc pm an' cdv ct), osl⟩) (hcg : PySem.W.codeIn X.K cdv x = true)
    (hb : L2.Binds X.K (PySem.W.fnOf x x pg bg sg dV kV doc pm an' cdv ct) [a] []) (Sg : FnScope Ng [a] sg) (hNg : Ng[0]? = some a) (hva : Vis sg a) (hG : GivesTo X Ng x sg g cdv bg a (lq X) TT) (hr : Room (k + 2) X.A) (ha : PA X [e] ta)
    (he : starEach [e] X.env = (false, eval e X.env) :: starEach [] X.env := by rfl) (hpl : (backTo pos (starEach [] X.env)).any (·.1) = false := by rfl) (hdb : (x == ("__debug__" : Str)) = false := by decide) (hda : (a == ("__debug__" : Str)) = false := by decide) (hcd : (a == ("__classdict__" : Str)) = false := by decide) :
    PE X (.Call (.Name x p) [e] [] pos) (tWordG X k TT ta) := by
  refine ⟨fun pins s σ H Q I h => wpAny_Call_Name_kw (ld_glob I hg hm ?_ hdb)⟩
  refine PySem.W.callWith_K (h₀ := X.base) I.ok.mod.kin hk (thn (ha.run pos pins s σ H _ I h) fun us s' ⟨vs, H1, I1, r1, F, f, c', ev, M, hq⟩ => ⟨I1.kIn, ?_⟩) he hpl
  subst ev
  cases r1 with
  | @cons _ u _ us r rn =>
  cases rn
  obtain rfl : u = Value.ref f := r
  refine wpAny_call (codeAny_mono (R := CR C8.CX0 X.stack X.prog X.w H1 s' Q C8.E0) ?_ fun r s2 hq => ?_)
  · refine run_ofS (N := Ng) (ps := [a]) (us := [.ref f]) (vs := [.ref f]) lk hcg Sg hr I1.env0 (hb s' [.ref f] I1.kIn rfl) (.cons rfl .nil) rfl fun hr' => ?_
    obtain ⟨tg, h1, h2⟩ := hG f c' s' H1 Q (fun E H' Q' => F.At f c' H' ∧ F.t E σ H' Q') (fun W pn xe E p1 p2 tk' hW => pe_actG (i := 0) F I1 tk' hW hr' hNg hva hda hcd) (F.code M) hq
    exact ⟨tg, h1.nox, h2⟩
  · cases r with
    | error e => exact (show False from hq).elim
    | ok fl =>
      cases fl with
      | ret u => exact I1.after hq
      | next => exact False.elim hq
      | brk => exact False.elim hq
      | cont => exact False.elim hq
/-- a lambda as a value: F what is known of it -/
def tLamG (T : List (Addr × Str)) (F : LamG X k) : TE := fun _ H Q => Tabs T H ∧ ∀ (f c : Addr) (H1 : Hp), ExtN H H1 → Tabs T H1 → H f = none → F.At f c H1 → Q (.ref f) H1
theorem pe_lamGD {T : List (Addr × Str)} {c P : Addr} {j : Tok} {pos dp : Pos} (F : LamF X k) (TB : TabB X.base X.mg c P) (hcode : X.env.code = .ref c) (hm : (P, lq X) ∈ T) (hu : ∀ p ∈ T, p.1 = P → p.2 = lq X) (hd : F.params.defaults = [.Constant (.int F.i) j dp]) (hk0 : F.params.kw_defaults = []) :
    PE X (.Lambda F.params F.body F.scope pos) (tLamG T F.g) :=
  ⟨fun pins s σ H Q I ⟨hT, h⟩ => laid I TB hcode hm hu hT F.L hd hk0 fun f c' t H1 s' I1 eN T1 nf _ M => ⟨.ref f, H1, I1, rfl, h f c' H1 eN T1 nf ⟨t, M⟩⟩⟩
theorem pe_lamG0 {T : List (Addr × Str)} {c P : Addr} {params : Arguments} {body : Expr} {scope : Scope} {pos : Pos} (t : XK → TE) (L : LamS X.env.scope scope) (hbind : ∀ (q : Str) (cl : List (Str × Addr)) (pm cv ctv : Value), bindArgs (PySem.W.kla_fn "<lambda>" q params body scope cl pm cv ctv) ⟨[], []⟩ = pure [])
    (hbody : ∀ (A : Around) (outer : List Env) (s : Shared) (H : Hp) (E : XK) (f c' : Addr), Room k (A.deeper (lamEnv X scope s.heap.objs.size f c')) → PE (lamCx X A outer s H E scope f c') body (t E)) (TB : TabB X.base X.mg c P) (hcode : X.env.code = .ref c) (hm : (P, lq X) ∈ T) (hu : ∀ p ∈ T, p.1 = P → p.2 = lq X) (hdef : defaultsOf params X.env = ([], [])) :
    PE X (.Lambda params body scope pos) (tLamG T (LamG.plain (k := k) t L hbind hbody)) :=
  ⟨fun pins s σ H Q I ⟨hT, h⟩ => laid0 I TB hcode hm hu hT L hdef fun f c' H1 s' I1 eN T1 nf M => ⟨.ref f, H1, I1, rfl, h f c' H1 eN T1 nf M⟩⟩
end
end LamD

/-! a comprehension that keeps nothing, and whose tests call functions that its def made -/
namespace LamD
open PySem PySem.Spec PyProof.Rows L2 LamX
section
variable {X : Cx}
/-- n turns, told by what holds ahead of each; the tests are false; they may speak of the slots at the entry -/
def tLcN (wi : TI) (g : TG) (tt : L2.St → TT) (vs : List Nat) : TE := fun σ H Q => wi σ H fun J H1 => ∀ D, H1 D = none → ∃ (n : Nat) (I : Nat → Hp → Prop), I 0 (upd H1 D (.lst [])) ∧ (∀ H2, I n H2 → J.stop n H2 ∧ Q (.ref D) H2) ∧
  ∀ i H2, i < n → I i H2 → J.go i H2 ∧ ∀ x H3, J.yld i H2 x H3 → g x (L2.wipe σ vs) H3 fun σ2 H4 => L2.wipe σ2 vs = L2.wipe σ vs ∧ tt σ σ2 H4 fun b H5 => b = false ∧ I (i + 1) H5
theorem thnX {α : Type} {t : Sem α} {Q Q' : α → Shared → Prop} {M : Model} {A : Around} {E F : Value → Shared → Prop} {s : Shared} (hx : E = fun _ _ => False) (h : wpAny M A t Q E s) (hQ : ∀ a s, Q a s → Q' a s) : wpAny M A t Q' F s := wpAny_mono h hQ fun _ _ z => by
  rw [hx] at z
  exact z.elim
/-- the turns -/
theorem loop_none {Y : Cx} {elt tg iter : Expr} {ifs : List Expr} {scope : Scope} {pos : Pos} {it D : Addr} {J : It} {fp : List Addr} {tn : Nat → Heap → Prop} {g : TG} {tt : TT} {vs : List Nat} {σ0 : L2.St} {H0 : Hp} {s0 : Shared} {R : Result → Shared → Prop} {n : Nat} {I : Nat → Hp → Prop}
    (hc : Y.calm = true) (hx : Y.xe = fun _ _ => False) (T : Turn Y.prog Y.w Y.K tg J fp it tn) (pg : PG Y tg g) (pt : PTs Y ifs tt)
    (ok : ∀ {σ' : L2.St} {H' : Hp} {s' : Shared}, Inv Y [] σ' H' s' → (∀ b ∈ fp, H' b = none) → ∀ b ∈ fp, FpOk Y [] H' b)
    (I0 : Inv Y [] σ0 H0 s0) (t0 : tn 0 s0.heap) (n0 : ∀ b ∈ fp, H0 b = none) (i0 : I 0 H0)
    (hgo : ∀ i H2, i < n → I i H2 → J.go i H2 ∧ ∀ x H3, J.yld i H2 x H3 → g x σ0 H3 fun σ2 H4 => L2.wipe σ2 vs = σ0 ∧ tt σ2 H4 fun b H5 => b = false ∧ I (i + 1) H5) (hstop : ∀ H2, I n H2 → J.stop n H2)
    (hR : ∀ s' H', Inv Y [] σ0 H' s' → I n H' → R (.ok .next) s') : codeAny (model Y.prog Y.w) Y.A (.compLoop (.ListComp elt [⟨tg, iter, ifs, 0⟩] scope pos) 0 (.ref it) (.ref D) Y.env) R s0 := by
  refine compLoop_any (fun m s' => ∃ i H', i + m = n ∧ Inv Y [] σ0 H' s' ∧ tn i s'.heap ∧ (∀ b ∈ fp, H' b = none) ∧ I i H') ?_ n ⟨0, H0, Nat.zero_add n, I0, t0, n0, i0⟩
  rintro m s1 ⟨i, H1, hm, I1, t1, n1, i1⟩
  by_cases hlt : i < n
  · obtain ⟨go, step⟩ := hgo i H1 hlt i1
    have ti := T.item Y rfl rfl rfl hc i [] s1 σ0 H1 (fun _ _ => False) I1 (ok I1 n1) t1 go
    refine thnF ti fun r s2 ⟨u, er, h2⟩ => ?_
    subst er
    refine thnF h2 fun _ s3 ⟨x, H3, I3, rx, y3, t3, n3⟩ => ?_
    have P3 := I3.pinned (ok I3 n3) (T.obj _ _ t3)
    have run := pg.run _ s3 σ0 H3 x u _ P3 rx (step x H3 y3)
    refine thnX hx run fun _ s4 ⟨σ4, H4, I4, w4, q4⟩ => ?_
    refine thnX hx (pt.run _ s4 σ4 H4 _ I4 q4) fun b s5 ⟨H5, I5, eb, i5⟩ => ?_
    subst eb
    rw [if_neg Bool.false_ne_true]
    have kept : ∀ b ∈ fp, ∀ o, s3.heap.get? b = some o → s5.heap.get? b = some o ∧ H5 b = none := fun b hb o e => by
      have z := I5.pin (b, o) (List.mem_append_right _ (List.mem_append_right _ (mem_pinsAt hb e)))
      exact ⟨z.1, z.2.1⟩
    refine ⟨m - 1, by omega, i + 1, H5, by omega, (I5.unpinned (pins := [])).weak (by rw [← w4, wipe_length]) (fun j v e => ?_), T.keep _ _ _ t3 fun b hb o e => (kept b hb o e).1, fun b hb => ?_, i5⟩
    · rw [← w4] at e
      exact (wipe_some e).1
    · obtain ⟨o, e, _⟩ := T.obj _ _ t3 b hb
      exact (kept b hb o e).2
  · have en : i = n := by omega
    subst en
    refine thnF (T.done Y rfl rfl rfl hc i [] s1 σ0 H1 (fun _ _ => False) I1 (ok I1 n1) t1 (hstop H1 i1)) fun r s2 ⟨er, I2⟩ => ?_
    subst er
    exact hR s2 H1 I2 i1
/-- the block's objects of its iterator -/
abbrev Walked (X : Cx) (pins : List (Addr × Obj)) (H : Hp) (fp : List Addr) : Prop := ∀ b ∈ fp, FpOk X pins H b
/-- back in the def, from the block -/
theorem back {pins : List (Addr × Obj)} {σ σ' : L2.St} {H H' : Hp} {s s' : Shared} {scope : Scope} {ce : Env} {fp : List Addr} {pb : List (Addr × Obj)} (I : Inv X pins σ H s) (f : Walked X pins H fp) (J : Inv (X.blk s H scope ce fp) pb σ' H' s') : Inv X pins σ H' s' :=
  Inv.call' (ch := fp) I J.os J.base J.hok J.bare fun b hb => by
    obtain ⟨_, f1, _, f3, f4, f5⟩ := f b hb
    exact ⟨f3, f1, f4, f5⟩
theorem pe_lcN {elt tg iter : Expr} {ifs : List Expr} {scope : Scope} {own : List (Str × Nat)} {pos : Pos} {wi : TI} {g : TG} {tt : L2.St → TT} (hc : X.calm = true) (hN : X.N.Nodup) (hi : PI X tg iter wi) (ok : BlkOk X.N X.env.scope scope own)
    (hg : ∀ (s : Shared) (H : Hp) (ce : Env) (fp : List Addr), (∃ cl C, ce = compEnvC scope cl C X.env) → PG (X.blk s H scope ce fp) tg g)
    (ht : ∀ (pins : List (Addr × Obj)) (σ : L2.St) (s : Shared) (H : Hp) (C : Addr) (cl : List (Str × Addr)) (fp : List Addr), Inv X pins σ H s → Walked X pins H fp → PTs (X.blk s H scope (compEnvC scope cl C X.env) fp) ifs (tt σ))
    (hs : ∀ x, foldedSetIterable iter X.env x = pure x := by intro _; rfl) : PE X (.ListComp elt [⟨tg, iter, ifs, 0⟩] scope pos) (tLcN wi g tt (own.map (·.2))) := by
  refine ⟨fun pins s σ H Q I h => ?_⟩
  rw [eval_ListComp]
  have fr : ∀ y ∈ scope.names, y.2 = .free → ∃ c, X.env.cells.lookup y.1 = some c := fun y hy e => (ok.free y hy e).elim (fun k => I.ok.has _ (.inl k)) fun k => I.ok.has _ (.inr k)
  have names : ∀ y ∈ scope.names, y.2 = .local → scope.names.lookup y.1 = some .local := fun y hy e => by
    rw [ok.uniq y hy, e]
  refine wpAny_comprehension_free (use := none) rfl hs (closure_ok fr) ok.kind names (thn (hi.run pins s σ H _ I h) fun xv s1 h1 => thn h1 fun itv s2 h2 => ?_)
  obtain ⟨it, fp, tn, J, H2, e, I2, T, st, f, q⟩ := h2
  subst e
  refine wpAny_newObj_type (newEnv_comp ?_) (Nat.zero_le _)
  have nD : H2 s2.heap.objs.size = none := I2.hok.fresh (Nat.le_refl _)
  obtain ⟨n, Iv, i0, hstop, hgo⟩ := q _ nD
  -- the new list
  obtain ⟨s3, e3⟩ : ∃ s3 : Shared, s3 = { s2 with heap := s2.heap.push { cls := .type "list", data := .seq ([] : List Value).toArray } } := ⟨_, rfl⟩
  rw [← e3]
  have up : ∀ b o, s2.heap.get? b = some o → s3.heap.get? b = some o := fun b o z => by
    rw [e3]
    exact Heap.get?_push_of_some _ z
  have sz : s3.heap.objs.size = s2.heap.objs.size + 1 := by
    rw [e3]
    exact Heap.size_push ..
  have I3 : Inv X pins σ (upd H2 s2.heap.objs.size (.lst [])) s3 := by
    rw [e3]
    exact I2.laid (t' := s2.toks) (fun b o z => Heap.get?_push_of_some _ z) (Nat.le_refl _) ⟨Nat.zero_le _, [], 0, .nil, Heap.get?_push_size _ rfl⟩
  have below : ∀ b ∈ fp, b < s2.heap.objs.size := fun b hb => by
    obtain ⟨o, z, _⟩ := T.obj _ _ st b hb
    exact Heap.lt_size z
  have f3 : Walked X pins (upd H2 s2.heap.objs.size (.lst [])) fp := fun b hb => by
    refine ⟨?_, (f b hb).2⟩
    rw [upd_ne (Nat.ne_of_lt (below b hb))]
    exact (f b hb).1
  have I4 := block_start (own := own) (fp := fp) I3 ok hN fun b hb => ⟨f3 b hb, by rw [sz]; exact Nat.lt_succ_of_lt (below b hb)⟩
  have nC : ∀ {σ' : L2.St} {H' : Hp} {s' : Shared} {ce : Env}, ce.locals = s3.heap.objs.size → Inv (X.blk s3 (upd H2 s2.heap.objs.size (.lst [])) scope ce fp) [] σ' H' s' → H' s3.heap.objs.size = none ∧ ∃ m, s'.heap.Ns s3.heap.objs.size m := fun {σ' H' s' ce} ec J => by
    have z : H' ce.locals = none := J.free
    obtain ⟨m, hn, _⟩ := J.loc
    have hn : s'.heap.Ns ce.locals m := hn
    rw [ec] at z hn
    exact ⟨z, m, hn⟩
  have pt := ht pins σ s3 _ s3.heap.objs.size (cellsFrom (s3.heap.objs.size + 1) scope.names (cloFrom X.env.cells scope.names [])) fp I3 f3
  have pg := hg s3 (upd H2 s2.heap.objs.size (.lst [])) _ fp ⟨cellsFrom (s3.heap.objs.size + 1) scope.names (cloFrom X.env.cells scope.names []), s3.heap.objs.size, rfl⟩
  have st4 : tn 0 (pushCells (s3.heap.push { cls := .type "dict", data := .dict #[] }) scope.names) := T.keep _ _ _ st fun b _ o z => pushCells_keeps _ _ _ _ (Heap.get?_push_of_some _ (up b o z))
  have lp := loop_none (Y := X.blk s3 (upd H2 s2.heap.objs.size (.lst [])) scope (compEnvC scope (cellsFrom (s3.heap.objs.size + 1) scope.names (cloFrom X.env.cells scope.names [])) s3.heap.objs.size X.env) fp) (elt := elt) (iter := iter) (scope := scope) (pos := pos) (D := s2.heap.objs.size) (vs := own.map (·.2)) (n := n) (I := Iv) (R := compPost (model X.prog X.w) X.A X.xe none (EP X pins σ Q) (.ref s2.heap.objs.size) s3.heap.objs.size) hc rfl T pg pt
    (fun {σ' H' s'} J nn b hb => ⟨nn b hb, (J.ok.exf b hb).1, J.ok.exfs b hb, .inl hb, fun x c z => (J.ok.exf b hb).2 x c z, fun p hp => absurd (show p ∈ ([] : List (Addr × Obj)) ++ [] from hp) (by simp)⟩)
    I4 st4 (fun b hb => (f3 b hb).1) i0 hgo (fun H5 i5 => (hstop H5 i5).1) fun s' H' J i5 => by
      obtain ⟨z, m, hn⟩ := nC rfl J
      have I7 := back I3 f3 J
      obtain ⟨g0, g1, g2, g3, g4, g5⟩ := I3.fpOk (Nat.le_refl _) z
      exact ⟨m, hn, fun h'' sb => ⟨.ref s2.heap.objs.size, H', I7.turned (t' := s'.toks) (fun b o hb e => (sb.2 b hb).trans e) g0 g1 g3 g4 g5, rfl, (hstop H' i5).2⟩⟩
  exact codeAny_compStart_list lp (T.self X.A 0 _ _ _ st4 lp)
end
section
variable {X : Cx} {k : Nat}
/-- x(e) in a block, e a function that the def made: its slots are σ -/
def tWordB (X : Cx) (k : Nat) (σ : L2.St) (TT : (XK → Hp → VK → Prop) → Hp → VK → Prop) (ta : TA) : TE := fun σ2 H Q => ta σ2 H fun vs H1 => ∃ (F : LamG X k) (f c : Addr), vs = [.ref f] ∧ F.At f c H1 ∧ TT (fun E H' Q' => F.At f c H' ∧ F.t E σ H' Q') H1 Q
theorem pe_wordB {TT : (XK → Hp → VK → Prop) → Hp → VK → Prop} {x a : Str} {g : Addr} {pg : Arguments} {bg : List Stmt} {sg : Scope} {dV kV doc pm cdv ct oc : Value} {an' od : Option Addr} {osl : Array (Option Value)} {Ng : List Str} {e : Expr} {ta : TA} {p pos : Pos}
    {pins : List (Addr × Obj)} {σ : L2.St} {s : Shared} {H : Hp} {scope : Scope} {ce : Env} {fp : List Addr} (I0 : Inv X pins σ H s) (f0 : Walked X pins H fp) (hg : Gl (X.blk s H scope ce fp) x) (hm : X.mg x = some (.ref g)) (hk : PySem.W.keepIn X.K (.ref g) = true)
    (lk : X.K.lookup g = some ⟨oc, od, .func (PySem.W.fnOf x x pg bg sg dV kV doc pm an' cdv ct), osl⟩) (hcg : PySem.W.codeIn X.K cdv x = true)
    (hb : L2.Binds X.K (PySem.W.fnOf x x pg bg sg dV kV doc pm an' cdv ct) [a] []) (Sg : FnScope Ng [a] sg) (hNg : Ng[0]? = some a) (hva : Vis sg a) (hG : GivesTo X Ng x sg g cdv bg a (lq X) TT) (hr : Room (k + 2) X.A) (ha : PA (X.blk s H scope ce fp) [e] ta)
    (he : starEach [e] ce = (false, eval e ce) :: starEach [] ce := by rfl) (hpl : (backTo pos (starEach [] ce)).any (·.1) = false := by rfl) (hdb : (x == ("__debug__" : Str)) = false := by decide) (hda : (a == ("__debug__" : Str)) = false := by decide) (hcd : (a == ("__classdict__" : Str)) = false := by decide) :
    PE (X.blk s H scope ce fp) (.Call (.Name x p) [e] [] pos) (tWordB X k σ TT ta) := by
  refine ⟨fun pb sb σb Hb Q J h => wpAny_Call_Name_kw (ld_glob J hg hm ?_ hdb)⟩
  refine PySem.W.callWith_K (h₀ := X.base) J.ok.mod.kin hk (thn (ha.run pos pb sb σb Hb _ J h) fun us s1 ⟨vs, H1, J1, r1, F, f, c, ev, M, hq⟩ => ⟨J1.kIn, ?_⟩) he hpl
  subst ev
  cases r1 with
  | @cons _ u _ us r rn =>
  cases rn
  obtain rfl : u = Value.ref f := r
  have I1 : Inv X pins σ H1 s1 := back I0 f0 J1
  refine wpAny_call (codeAny_mono (R := CR C8.CX0 X.stack X.prog X.w H1 s1 Q C8.E0) ?_ fun r s2 z => ?_)
  · refine run_ofS (N := Ng) (ps := [a]) (us := [.ref f]) (vs := [.ref f]) lk hcg Sg hr J1.env0 (hb s1 [.ref f] J1.kIn rfl) (.cons rfl .nil) rfl fun hr' => ?_
    obtain ⟨tg, h1, h2⟩ := hG f c s1 H1 Q (fun E H' Q' => F.At f c H' ∧ F.t E σ H' Q') (fun W pn xe E p1 p2 tk' hW => pe_actG (i := 0) F I1 tk' hW hr' hNg hva hda hcd) (F.code M) hq
    exact ⟨tg, h1.nox, h2⟩
  · cases r with
    | error e => exact (show False from z).elim
    | ok fl =>
      cases fl with
      | ret u => exact J1.after z
      | next => exact z.elim
      | brk => exact z.elim
      | cont => exact z.elim
end
end LamD

/-! lambdas in slots and in lists -/
namespace LamD
open PySem PySem.Spec PyProof.Rows L2 LamX
section
variable {X : Cx} {k : Nat}
/-- what is told of l stands in H -/
def Holds (l : List (Addr × HO)) (H : Hp) : Prop := ∀ q ∈ l, H q.1 = some q.2
/-- by l the function of which F tells is at f -/
def KpF (F : LamG X k) (f : Addr) (l : List (Addr × HO)) : Prop := ∃ c, ∀ H, Holds l H → F.At f c H
theorem KpF.mono {F : LamG X k} {f : Addr} {l l' : List (Addr × HO)} (h : KpF F f l) (s : ∀ q ∈ l, q ∈ l') : KpF F f l' := let ⟨c, hc⟩ := h; ⟨c, fun H hh => hc H fun q hq => hh q (s q hq)⟩
/-- a lambda, its objects by l -/
def tLamK (T : List (Addr × Str)) (F : LamG X k) : TE := fun _ H Q => Tabs T H ∧ ∀ (f : Addr) (l : List (Addr × HO)) (H1 : Hp), ExtN H H1 → Tabs T H1 → Holds l H1 → (∀ q ∈ l, (H q.1 = none ∨ ∃ n, q.2 = CodeO q.1 n) ∧ ∀ ps, q.2 ≠ .tbl ps) → KpF F f l → Q (.ref f) H1
theorem pe_lamKD {T : List (Addr × Str)} {c P : Addr} {j : Tok} {pos dp : Pos} (F : LamF X k) (TB : TabB X.base X.mg c P) (hcode : X.env.code = .ref c) (hm : (P, lq X) ∈ T) (hu : ∀ p ∈ T, p.1 = P → p.2 = lq X) (hd : F.params.defaults = [.Constant (.int F.i) j dp]) (hk0 : F.params.kw_defaults = []) :
    PE X (.Lambda F.params F.body F.scope pos) (tLamK T F.g) :=
  ⟨fun pins s σ H Q I ⟨hT, h⟩ => laid I TB hcode hm hu hT F.L hd hk0 fun f c' t H1 s' I1 eN T1 nf nt M => by
    obtain ⟨doc, pm, ctv, hf⟩ := M.fn
    refine ⟨.ref f, H1, I1, rfl, h f [(f, _), (t, _), (c', _)] H1 eN T1 (fun q hq => ?_) (fun q hq => ?_) ⟨c', fun H' hh => ⟨t, ⟨doc, pm, ctv, hh _ (List.mem_cons_self ..)⟩, hh _ (List.mem_cons_of_mem _ (List.mem_cons_self ..)), hh _ (List.mem_cons_of_mem _ (List.mem_cons_of_mem _ (List.mem_cons_self ..)))⟩⟩⟩
    · simp only [List.mem_cons, List.not_mem_nil, or_false] at hq
      rcases hq with rfl | rfl | rfl
      · exact hf
      · exact M.tup
      · exact M.code
    · simp only [List.mem_cons, List.not_mem_nil, or_false] at hq
      rcases hq with rfl | rfl | rfl
      · exact ⟨.inl nf, fun ps z => by cases z⟩
      · exact ⟨.inl nt, fun ps z => by cases z⟩
      · exact ⟨.inr ⟨_, rfl⟩, fun ps z => by cases z⟩⟩
theorem pe_lamK0 {T : List (Addr × Str)} {c P : Addr} {params : Arguments} {body : Expr} {scope : Scope} {pos : Pos} (t : XK → TE) (L : LamS X.env.scope scope) (hbind : ∀ (q : Str) (cl : List (Str × Addr)) (pm cv ctv : Value), bindArgs (PySem.W.kla_fn "<lambda>" q params body scope cl pm cv ctv) ⟨[], []⟩ = pure [])
    (hbody : ∀ (A : Around) (outer : List Env) (s : Shared) (H : Hp) (E : XK) (f c' : Addr), Room k (A.deeper (lamEnv X scope s.heap.objs.size f c')) → PE (lamCx X A outer s H E scope f c') body (t E)) (TB : TabB X.base X.mg c P) (hcode : X.env.code = .ref c) (hm : (P, lq X) ∈ T) (hu : ∀ p ∈ T, p.1 = P → p.2 = lq X) (hdef : defaultsOf params X.env = ([], [])) :
    PE X (.Lambda params body scope pos) (tLamK T (LamG.plain (k := k) t L hbind hbody)) :=
  ⟨fun pins s σ H Q I ⟨hT, h⟩ => laid0 I TB hcode hm hu hT L hdef fun f c' H1 s' I1 eN T1 nf M => by
    obtain ⟨pm, ctv, hf⟩ := M.fn
    refine ⟨.ref f, H1, I1, rfl, h f [(f, _), (c', _)] H1 eN T1 (fun q hq => ?_) (fun q hq => ?_) ⟨c', fun H' hh => ⟨⟨pm, ctv, hh _ (List.mem_cons_self ..)⟩, hh _ (List.mem_cons_of_mem _ (List.mem_cons_self ..))⟩⟩⟩
    · simp only [List.mem_cons, List.not_mem_nil, or_false] at hq
      rcases hq with rfl | rfl
      · exact hf
      · exact M.code
    · simp only [List.mem_cons, List.not_mem_nil, or_false] at hq
      rcases hq with rfl | rfl
      · exact ⟨.inl nf, fun ps z => by cases z⟩
      · exact ⟨.inr ⟨_, rfl⟩, fun ps z => by cases z⟩⟩
end
end LamD
namespace Dv
open PySem PySem.Spec L2 LamX LamD
open PyProof.Rows hiding St
section
variable {K : PySem.W.Frag} {T : List (Addr × Str)} {W W2 : Wd K T} {G G2 : Ctx} {ta tb te : TE}
/-- te gives what is told by an Ob -/
def EO (K : PySem.W.Frag) (T : List (Addr × Str)) (te : TE) (G : Ctx) (P : Ob → Prop) : Prop := ∀ (W : Wd K T) (σ : L2.St) (H : Hp), Sl W H σ G → W.J H → ∀ Q : VK, (∀ v o H', Ex W H H' → W.J H' → OD W H' v o → P o → Q v H') → te σ H Q
theorem eo_var {i : Nat} {o : Ob} (h : G[i]? = some (some o)) : EO K T (tVar i) G (· = o) := fun W σ H s j Q q => by
  obtain ⟨v, h1, h2⟩ := s.at_ i _ h
  exact ⟨v, h1, q v o H (.refl H) j h2 rfl⟩
theorem s_asgO {i : Nat} {P : Ob → Prop} {F : EndG} (h : EO K T te G P) (k : ∀ o, P o → F.nx (G.set i (some o))) : S K T (tAsg te (gName i)) G F := fun W D' σ H s j ok => h W σ H s j _ fun v o H1 e1 j1 dv p => ok.nx _ H1 _ e1 j1 ((s.mono e1).set dv) (k o p)
variable {X : Cx} {k : Nat}
/-- the function of which F tells -/
def isF (F : LamG X k) (o : Ob) : Prop := ∃ f l, o = .keep (.ref f) l ∧ KpF F f l
abbrev arF (o : Ob) (F : LamG X k) : Prop := isF F o
def atF (l : List (Addr × HO)) (v : V) (F : LamG X k) : Prop := ∃ f, v = V.ref f ∧ KpF F f l
/-- the list of the functions of which Fs tell -/
def isFs (Fs : List (LamG X k)) (o : Ob) : Prop := ∃ p vs l, o = .keep (.ref p) l ∧ (p, HO.lst vs) ∈ l ∧ Paired (atF l) vs Fs
theorem eo_lam {F : LamG X k} : EO K T (tLamK T F) G (isF F) := fun W σ H s j Q q => ⟨W.jT j, fun f l H1 eN T1 hh hl kf => by
  have j1 := W.jt j eN T1
  refine q (.ref f) (.keep (.ref f) l) H1 (.extN eN) j1 (.keep fun p hp => ⟨hh p hp, fun x => ?_, (hl p hp).2⟩) ⟨f, l, rfl, kf⟩
  rcases (hl p hp).1 with z | ⟨n, z⟩
  · exact W.jx j x z
  · exact W.xc j1 x (by rw [hh p hp, z])⟩
theorem a_nilF : EA K T tNil G (fun os => Paired arF os ([] : List (LamG X k))) := a_nil.imp fun os e => by
  rw [e]
  exact .nil
theorem a_consF {F : LamG X k} {Fs : List (LamG X k)} {tr : TA} (h : EO K T te G (isF F)) (hr : EA K T tr G (fun os => Paired arF os Fs)) : EA K T (tCons te tr) G (fun os => Paired arF os (F :: Fs)) := fun W σ H s j Q q =>
  h W σ H s j _ fun v o H1 e1 j1 dv p => hr W σ H1 (s.mono e1) j1 _ fun vs os H2 e2 j2 dvs ps => q (v :: vs) (o :: os) H2 (e1.trans e2) j2 (.cons (dv.mono e2) dvs) (.cons p ps)
theorem paired_mono {α β : Type} {R R' : α → β → Prop} (i : ∀ a b, R a b → R' a b) : ∀ {as : List α} {bs : List β}, Paired R as bs → Paired R' as bs
  | _, _, .nil => .nil
  | _, _, .cons a t => .cons (i _ _ a) (paired_mono i t)
theorem paired_app {α β : Type} {R : α → β → Prop} : ∀ {as as' : List α} {bs bs' : List β}, Paired R as bs → Paired R as' bs' → Paired R (as ++ as') (bs ++ bs')
  | _, _, _, _, .nil, t => t
  | _, _, _, _, .cons a s, t => .cons a (paired_app s t)
theorem paired_mem {α β : Type} {R : α → β → Prop} {a : α} : ∀ {as : List α} {bs : List β}, Paired R as bs → a ∈ as → ∃ b ∈ bs, R a b
  | _, _, .cons h t, m => by
    rcases List.mem_cons.mp m with rfl | m
    · exact ⟨_, List.mem_cons_self .., h⟩
    · obtain ⟨b, h1, h2⟩ := paired_mem t m
      exact ⟨b, List.mem_cons_of_mem _ h1, h2⟩
/-- what stands at l's places, out of what may change -/
def Kept (W : Wd K T) (H : Hp) (l : List (Addr × HO)) : Prop := ∀ p ∈ l, H p.1 = some p.2 ∧ ¬ W.X p.1 ∧ ∀ ps, p.2 ≠ .tbl ps
theorem Kept.mono {H H' : Hp} {l : List (Addr × HO)} (h : Kept W H l) (e : Ex W H H') : Kept W H' l := fun p hp => ⟨e.k _ _ (h p hp).1 (h p hp).2.2 (h p hp).2.1, (h p hp).2⟩
theorem Kept.app {H : Hp} {l l' : List (Addr × HO)} (h : Kept W H l) (h' : Kept W H l') : Kept W H (l ++ l') := fun p hp => (List.mem_append.mp hp).elim (h p) (h' p)
theorem Kept.cons {H : Hp} {l : List (Addr × HO)} {a : Addr} {xs : List V} (h : Kept W H l) (ha : H a = some (.lst xs)) (n : ¬ W.X a) : Kept W H ((a, .lst xs) :: l) := fun p hp => by
  rcases List.mem_cons.mp hp with rfl | hp
  · exact ⟨ha, n, fun ps z => by cases z⟩
  · exact h p hp
theorem od_keep {H : Hp} {v u : V} {l : List (Addr × HO)} (h : OD W H v (.keep u l)) : v = u ∧ Kept W H l := by
  cases h with
  | keep h => exact ⟨rfl, h⟩
theorem gather {H : Hp} : ∀ {vs : List V} {os : List Ob} {Fs : List (LamG X k)}, Paired (OD W H) vs os → Paired arF os Fs → ∃ l, Kept W H l ∧ Paired (atF l) vs Fs
  | _, _, _, .nil, .nil => ⟨[], ⟨fun p hp => (List.not_mem_nil hp).elim, .nil⟩⟩
  | _, _, _, .cons a t, .cons b u => by
    obtain ⟨l, h1, h2⟩ := gather t u
    obtain ⟨f, l0, rfl, kf⟩ := b
    obtain ⟨rfl, k0⟩ := od_keep a
    exact ⟨l0 ++ l, k0.app h1, .cons ⟨f, rfl, kf.mono fun q hq => List.mem_append_left _ hq⟩ (paired_mono (fun v F ⟨g, e, kg⟩ => ⟨g, e, kg.mono fun q hq => List.mem_append_right _ hq⟩) h2)⟩
theorem eo_lst {Fs : List (LamG X k)} {tr : TA} (h : EA K T tr G (fun os => Paired arF os Fs)) (hl : Fs.length ≤ 100000) : EO K T (tLst tr) G (isFs Fs) := fun W σ H s j Q q => h W σ H s j _ fun vs os H1 e1 j1 dv p => by
  obtain ⟨l, h1, h2⟩ := gather dv p
  refine ⟨Nat.le_trans (by rw [Paired.length h2]; exact hl) (by decide), fun x hx => q (.ref x) (.keep (.ref x) ((x, .lst vs) :: l)) _ (e1.trans (.new hx)) (j_new j1 hx) (.keep ((h1.mono (.new hx)).cons upd_same (new_ne j1 hx))) ⟨x, vs, _, rfl, List.mem_cons_self .., ?_⟩⟩
  exact paired_mono (fun v F ⟨g, e, kg⟩ => ⟨g, e, kg.mono fun q hq => List.mem_cons_of_mem _ hq⟩) h2
theorem eo_cat {Fs Gs : List (LamG X k)} (ha : EO K T ta G (isFs Fs)) (hb : EO K T tb G (isFs Gs)) (hl : Fs.length + Gs.length ≤ 100000) : EO K T (tOp rCat ta tb) G (isFs (Fs ++ Gs)) := fun W σ H s j Q q =>
  ha W σ H s j _ fun x o H1 e1 j1 dx px => hb W σ H1 (s.mono e1) j1 _ fun y u H2 e2 j2 dy py => by
    obtain ⟨a, xs, l, rfl, ma, pa⟩ := px
    obtain ⟨b, ys, m, rfl, mb, pb⟩ := py
    obtain ⟨rfl, ka⟩ := od_keep (dx.mono e2)
    obtain ⟨rfl, kb⟩ := od_keep dy
    refine ⟨a, b, xs, ys, rfl, rfl, (ka _ ma).1, (kb _ mb).1, Nat.le_trans (by rw [Paired.length pa, Paired.length pb]; exact hl) (by decide), fun p hp => q (.ref p) (.keep (.ref p) ((p, .lst (xs ++ ys)) :: (l ++ m))) _ ((e1.trans e2).trans (.new hp)) (j_new j2 hp) (.keep (((ka.app kb).mono (.new hp)).cons upd_same (new_ne j2 hp))) ⟨p, xs ++ ys, _, rfl, List.mem_cons_self .., ?_⟩⟩
    refine paired_app (paired_mono (fun v F ⟨g, e, kg⟩ => ⟨g, e, kg.mono fun q hq => ?_⟩) pa) (paired_mono (fun v F ⟨g, e, kg⟩ => ⟨g, e, kg.mono fun q hq => ?_⟩) pb)
    · exact List.mem_cons_of_mem _ (List.mem_append_left _ hq)
    · exact List.mem_cons_of_mem _ (List.mem_append_right _ hq)
/-- [f for f in fs if ..] of which none is kept -/
theorem el_lcF {K' : PySem.W.Frag} {i j : Nat} {Fs : List (LamG X k)} {o : Ob} {tt : L2.St → TT} (ho : isFs Fs o) (hg : G[i]? = some (some o))
    (hs : ∀ F ∈ Fs, ∀ f l, KpF F f l → ∀ (W : Wd K T) (σ σ2 : L2.St) (H : Hp), Sl W H σ G → Sl W H σ2 ((wipeG G [j]).set j (some (.keep (.ref f) l))) → W.J H → ∀ Q : Bool → Hp → Prop, (∀ H', Ex W H H' → W.J H' → Q false H') → tt σ σ2 H Q) :
    EL K T (tLcN (iList K' (tVar i)) (gName j) tt [j]) G (· = []) := fun W σ H s j0 Q q => by
  obtain ⟨p, vs, l, rfl, hm, hp⟩ := ho
  obtain ⟨v, h1, h2⟩ := s.at_ i _ hg
  obtain ⟨rfl, hk⟩ := od_keep h2
  obtain ⟨ha, nx, _⟩ := hk _ hm
  refine ⟨.ref p, h1, p, rfl, ⟨vs, SqL.of ha⟩, fun D hD => ?_⟩
  have nD : ¬ W.X D := new_ne j0 hD
  have w := walk_list (K := K') (a := p) (xs := vs)
  have q1 : ∀ {H' : Hp}, Ex W H H' → SqL K' H' p vs := fun {H'} e => SqL.of (e.k _ _ ha (fun _ z => by cases z) nx)
  refine ⟨vs.length, fun i H' => Ex W H H' ∧ W.J H' ∧ H' D = some (.lst []), ⟨.new hD, j_new j0 hD, upd_same⟩, fun H2 ⟨e, j2, hl⟩ => ⟨w.stops H2 (q1 e), q D [] [] H2 ⟨H, .refl H, hD, e⟩ j2 nD hl .nil rfl⟩, fun i H2 hi ⟨e, j2, hl⟩ => ⟨w.goes i H2 hi (q1 e), fun x H3 y => ?_⟩⟩
  obtain ⟨rfl, hx⟩ := w.yields i H2 x H3 hi (q1 e) y
  obtain ⟨F, hF, f, rfl, kf⟩ := paired_mem hp (List.mem_of_getElem? hx)
  have sH : Sl (W.hide D nD []) H3 σ G := (s.to (hide_out (hp := nD) (ys := []) hD) rfl).mono (ex_hide e)
  have kH : Kept (W.hide D nD []) H l := fun p hp => ⟨(hk p hp).1, hide_out hD _ _ (hk p hp).1 (hk p hp).2.1, (hk p hp).2.2⟩
  refine ⟨(wipe_same (by simp) fun k hk => List.getElem?_set_ne fun z => hk (by rw [← z]; exact List.mem_singleton.mpr rfl)).trans wipe_wipe, ?_⟩
  exact hs F hF f l kf (W.hide D nD []) σ _ H3 sH ((sH.wipe [j]).set (.keep (kH.mono (ex_hide e)))) ⟨j2, hl⟩ _ fun H5 e5 j5 => ⟨rfl, hide_ex hD ((ex_hide e).trans e5), j5.1, j5.2⟩
/-- x(f) in the block: what f's reading says, by data -/
theorem word_of {ok : Xd → Prop} {wd : Xd → PyData} {F : LamG X k} {f : Addr} {l : List (Addr × HO)} {j : Nat} {σ σ2 : L2.St} {H : Hp} {P : PyData → Prop} {Xs : Xd → Prop} (hF : KpF F f l) (hg : G2[j]? = some (some (.keep (.ref f) l))) (s : Sl W H σ G) (s2 : Sl W H σ2 G2) (jj : W.J H)
    (h : ∀ Ech, EX K T Ech (F.t Ech) G P Xs) (hx : ∀ x, Xs x → ok x) {Q : VK} (q : ∀ v d H', Ex W H H' → W.J H' → D W H' v d → ((∃ r, P r ∧ d = .tuple [.str "", r]) ∨ ∃ x, Xs x ∧ d = wd x) → Q v H') : tWordB X k σ (TTw K T ok wd) (tCons (tVar j) tNil) σ2 H Q := by
  obtain ⟨v, h1, h2⟩ := s2.at_ j _ hg
  obtain ⟨rfl, hk⟩ := od_keep h2
  obtain ⟨c, hc⟩ := hF
  refine ⟨.ref f, h1, F, f, c, rfl, hc H fun p hp => (hk p hp).1, W, P, Xs, jj, fun p hp np Ech Q' q' xo => ⟨hc _ fun a ha => ?_, ?_⟩, hx, q⟩
  · rw [upd_ne (ne_of_none (hk a ha).1 np)]
    exact (hk a ha).1
  · exact h Ech (W.hide p hp []) σ _ ((s.to (hide_out np) rfl).mono (.new np)) ⟨j_new jj np, upd_same⟩ xo Q' q'
/-- not alike(x(f), e) -/
theorem not_alike {Ex' : XK} {te tu : TE} {σ2 : L2.St} {H : Hp} {d : PyData} {pre : List PyData → Prop} {Fn : List PyData → PyData} (s2 : Sl W H σ2 G2) (hw : ∀ Q : VK, (∀ v e H', Ex W H H' → W.J H' → D W H' v e → e = d → Q v H') → te σ2 H Q) (hu : E K T tu G2 (· = d)) (hp : pre [d, d]) (hF : Fn [d, d] = .bool true)
    {Q : Bool → Hp → Prop} (q : ∀ H', Ex W H H' → W.J H' → Q false H') : tNot (tB (tCall (spD K T pre Fn) [] Ex' (tCons te (tCons tu tNil)))) σ2 H Q := by
  refine hw _ fun v e H1 e1 j1 dv p => hu W σ2 H1 (s2.mono e1) j1 _ fun u e' H2 e2 j2 du p' => ?_
  subst p p'
  refine ⟨W, dats [e', e'], j2, .cons (.dat (dv.mono e2)) (.cons (.dat du) .nil), ⟨[e', e'], rfl, hp⟩, fun v3 d3 H3 e3 j3 dv3 ⟨ds, ed, hd⟩ => ?_⟩
  have ed := dats_inj ed
  subst ed
  rw [hF] at hd
  subst hd
  exact ⟨true, dv3.bool_inv, q H3 ((e1.trans e2).trans e3) j3⟩
end
end Dv
namespace LamD
open PySem PySem.Spec PyProof.Rows L2 LamX
section
variable {X : Cx} {k : Nat}
theorem pe_lamKE {T : List (Addr × Str)} {c P : Addr} {params : Arguments} {body : Expr} {scope : Scope} {an : Str} {i : Int} {t : XK → TE} {j : Tok} {pos dp : Pos} (L : LamDS X.env.scope scope an X.N)
    (hbind : ∀ (tk : Tok) (t : Addr) (q : Str) (cl : List (Str × Addr)) (doc pm cv ctv : Value), ∃ k, bindArgs (PySem.W.kdv_fn "<lambda>" q params (.expr body) scope cl (.ref t) doc pm cv ctv) ⟨[], []⟩ = seqItems? (.ref t) >>= k ∧ k (some #[.int i tk]) = pure [(an, .int i tk)])
    (hbody : ∀ (A : Around) (outer : List Env) (s : Shared) (H : Hp) (E : XK) (f c' : Addr), Room k (A.deeper (lamEnv X scope s.heap.objs.size f c')) → PE (lamCx X A outer s H E scope f c') body (t E))
    (TB : TabB X.base X.mg c P) (hcode : X.env.code = .ref c) (hm : (P, lq X) ∈ T) (hu : ∀ p ∈ T, p.1 = P → p.2 = lq X) (hd : params.defaults = [.Constant (.int i) j dp]) (hk0 : params.kw_defaults = []) :
    PE X (.Lambda params body scope pos) (tLamK T (LamF.g (k := k) ⟨params, body, scope, an, i, t, L, hbind, hbody⟩)) := pe_lamKD (k := k) ⟨params, body, scope, an, i, t, L, hbind, hbody⟩ TB hcode hm hu hd hk0
end
end LamD

namespace DvS
open PySem PySem.Spec PySem.W PyProof.Rows
section
variable {prog : Program} {w : World} {A : Around} {s : Shared}
/-- ints as Python's values -/
theorem reads_ints {h : Heap} : ∀ {ns : List Int} {us : List Value}, L2.Vals (ns.map L2.V.int) us → ReadsAll h us (ns.map PyData.int) []
  | [], _, .nil => .nil
  | n :: r, _, .cons a t => by
    obtain ⟨tk, rfl⟩ := a
    exact ReadsAll.cons (as := []) (bs := []) (.int n tk) (reads_ints t)
/-- what the lambda's call needs of the heap -/
structure LamAt (h : Heap) (f c' : Addr) (qual y : Str) (params : Arguments) (body : Expr) (scope : Scope) (clos : List (Str × Addr)) (pm ctv : Value) (mg mb : Str → Option Value) : Prop where
  fo : h.get? f = some (kla_obj (Str.ofString "<lambda>") qual params body scope clos pm c' ctv)
  cr : h.CodeRec (.ref c') qual
  lim : h.NoLimit
  glob : h.Ns mainGlobals mg
  blt : h.Ns builtinsNs mb
theorem LamAt.keeps {h h' : Heap} {f c' : Addr} {qual y : Str} {params : Arguments} {body : Expr} {scope : Scope} {clos : List (Str × Addr)} {pm ctv : Value} {mg mb : Str → Option Value} (L : LamAt h f c' qual y params body scope clos pm ctv mg mb) (k : ∀ b o, h.get? b = some o → h'.get? b = some o) : LamAt h' f c' qual y params body scope clos pm ctv mg mb := by
  obtain ⟨c, o, vs, t, e, ho, hd, hv⟩ := L.cr
  exact ⟨k _ _ L.fo, ⟨c, o, vs, t, e, k _ _ ho, hd, hv⟩, L.lim.keeps k, L.glob.keeps k, L.blt.keeps k⟩
/-- lambda y: (len(y), y), called of a tuple of ints -/
theorem key_turn {f c' b : Addr} {qual y : Str} {params : Arguments} {scope : Scope} {clos : List (Str × Addr)} {pm ctv : Value} {mg mb : Str → Option Value} {p1 p2 p3 p4 p5 : Pos} {k : Nat} {ns : List Int} {us : List Value}
    (L : LamAt s.heap f c' qual y params (.Tuple [.Call (.Name (Str.ofString "len") p1) [.Name y p2] [] p3, .Name y p4] k p5) scope clos pm ctv mg mb) (hml : mg (Str.ofString "len") = none) (hvl : mb (Str.ofString "len") = some (.builtin "len"))
    (hbind : bindArgs (kla_fn (Str.ofString "<lambda>") qual params (.Tuple [.Call (.Name (Str.ofString "len") p1) [.Name y p2] [] p3, .Name y p4] k p5) scope clos pm (.ref c') ctv) ⟨[.ref b], []⟩ = pure [(y, .ref b)])
    (hy : scope.names.lookup y = some .local) (hl : scope.names.lookup (Str.ofString "len") = some .globalImplicit) (hcell : ∀ x ∈ scope.names, x.2 ≠ .cell) (hco : scope.isCoroutine = false) (hgen : scope.isGenerator = false) (hk : scope.kind = .function) (hdy : (y == ("__debug__" : Str)) = false)
    (hroom : A.depth < recursionLimit) (ht : IsTup s.heap b us.toArray) (hv : L2.Vals (ns.map L2.V.int) us) (hn : ns.length ≤ 1000) :
    wpAny (model prog w) A (call (.ref f) [.ref b]) (KeyPure (.tuple [.int ns.length, .tuple (ns.map .int)]) s) (fun _ _ => False) s := by
  refine wpAny_call (kla_callFunE hroom L.fo rfl hco hgen rfl L.cr ?_)
  rw [hbind]
  have lus : us.length = ns.length := by rw [← hv.length, List.length_map]
  refine wpAny_pure (wpAny_newFunctionEnv hcell (fun x hx => by rw [List.mem_singleton.mp hx]; exact hy) (fun h₁ hns hsb => ⟨L.lim.fresh _ hsb, kla_codeExpr ?_⟩) hk)
  have k1 : ∀ b o, s.heap.get? b = some o → h₁.get? b = some o := fun b o e => hsb.extBut b o (Nat.ne_of_lt (Heap.lt_size e)) (Heap.get?_push_of_some _ e)
  have L1 := L.keeps k1
  have t1 : IsTup h₁ b us.toArray := ht.keeps k1
  have hvy : ([(y, Value.ref b)] : List (Str × Value)).reverse.lookup y = some (.ref b) := by
    show List.lookup y [(y, Value.ref b)] = _
    rw [List.lookup_cons, beq_self_eq_true]
  refine wpAny_Tuple_spliced (args_cons (e := .Call (.Name (Str.ofString "len") p1) [.Name y p2] [] p3) (rest := [.Name y p4]) ?_ rfl)
  refine Call_ (Calls.Name_function_global hk hl (Calls.loadGlobal_builtin L1.glob hml L1.blt hvl ?_))
  refine PyProof.Rows.callWith_builtin1 (e := .Name y p2) (rest := []) (args_cons (wpAny_Name (wpAny_loadName_local hk hy hns hvy ?_) hdy) rfl) rfl rfl
  refine args_nil (len_tuple t1 (by rw [List.size_toArray, lus]; omega) ?_)
  refine args_cons (wpAny_Name (wpAny_loadName_local hk hy hns hvy ?_) hdy) rfl
  refine args_nil ⟨by show 2 ≤ sizeLine; decide, ?_⟩
  refine ⟨h₁.push _, _, rfl, fun b o e => Heap.get?_push_of_some _ (k1 b o e), ?_⟩
  refine Reads.tuple (as := []) (Heap.get?_push_size _ rfl) rfl rfl ?_
  obtain ⟨o, ho, hc, n, hd⟩ := t1
  have e1 : ((us.toArray.size : Nat) : Int) = ns.length := by rw [List.size_toArray, lus]
  refine ReadsAll.cons (as := []) (bs := []) ?_ (ReadsAll.cons (as := []) (bs := []) (.tuple (Heap.get?_push_of_some _ ho) hc hd (by rw [List.toList_toArray]; exact reads_ints hv)) .nil)
  rw [← e1]
  exact .int _ _
end
end DvS
namespace L2
open PySem PySem.Spec PySem.W PyProof.Rows LamX DvS
def lenKey (l : List Int) : PyData := .tuple [.int l.length, .tuple (l.map .int)]
/-- sorted(e, key=lambda y: (len(y), y)), e a list of tuples of ints -/
def tSortL (T : List (Addr × Str)) (K : PySem.W.Frag) (te : TE) : TE := fun σ H Q => te σ H fun x H1 => ∃ (a : Addr) (xs : List V) (Ls : List (List Int)), x = .ref a ∧ SqL K H1 a xs ∧ Paired (fun v l => ∃ b, v = V.ref b ∧ H1 b = some (.tup (l.map V.int))) xs Ls ∧ (∀ l ∈ Ls, l.length ≤ 1000) ∧ Tabs T H1 ∧
  ∀ (H2 : Hp) (p : Addr) (out : List V), ExtN H1 H2 → Tabs T H2 → H2 p = none → Paired (fun v l => v ∈ xs ∧ ∃ b, v = V.ref b ∧ H2 b = some (.tup (l.map V.int))) out (Ls.mergeSort (dataLe false lenKey)) → Q (.ref p) (upd H2 p (.lst out))
theorem SqL.extN {K : PySem.W.Frag} {H H' : Hp} {a : Addr} {xs : List V} (h : SqL K H a xs) (e : ExtN H H') : SqL K H' a xs := by
  rcases h with (h | ⟨o, h⟩) | h
  · exact .inl (.inl (e _ _ h fun _ z => by cases z))
  · exact .inl (.inr ⟨o, e _ _ h fun _ z => by cases z⟩)
  · exact .inr h
theorem SqT.extN {K : PySem.W.Frag} {H H' : Hp} {a : Addr} {xs : List V} (h : SqT K H a xs) (e : ExtN H H') : SqT K H' a xs := by
  rcases h with (h | ⟨o, h⟩) | h
  · exact .inl (.inl (e _ _ h fun _ z => by cases z))
  · exact .inl (.inr ⟨o, e _ _ h fun _ z => by cases z⟩)
  · exact .inr h
section
variable {X : Cx}
theorem each_of {R : V → List Int → Prop} {S : Value → List Int → Prop} (h : ∀ v u l, R v l → RelV v u → S u l) : ∀ {xs : List V} {us : List Value} {Ls : List (List Int)}, Paired R xs Ls → Vals xs us → EachIs S us Ls
  | _, _, _, .nil, .nil => .nil
  | _, _, _, .cons a t, .cons b u => .cons (h _ _ _ a b) (each_of h t u)
theorem back_of {R : V → List Int → Prop} {S : Value → List Int → Prop} (h : ∀ u l, S u l → ∃ v, R v l ∧ RelV v u) : ∀ {us : List Value} {Ls : List (List Int)}, EachIs S us Ls → ∃ xs, Paired R xs Ls ∧ Vals xs us
  | _, _, .nil => ⟨[], .nil, .nil⟩
  | _, _, .cons a t => by
    obtain ⟨v, r, e⟩ := h _ _ a
    obtain ⟨xs, r2, e2⟩ := back_of h t
    exact ⟨v :: xs, .cons r r2, .cons e e2⟩
theorem paired_mem {α β : Type} {R : α → β → Prop} : ∀ {xs : List α} {ys : List β}, Paired R xs ys → Paired (fun x y => x ∈ xs ∧ R x y) xs ys
  | _, _, .nil => .nil
  | _, _, .cons a t => .cons ⟨List.mem_cons_self .., a⟩ (L2.Paired.mapP (paired_mem t) fun x y z => ⟨List.mem_cons_of_mem _ z.1, z.2⟩)
theorem depthAll_le {k : Nat} : ∀ {xs : List PyData}, (∀ x ∈ xs, x.depth ≤ k) → PyData.depthAll xs ≤ k
  | [], _ => by show 0 ≤ k; omega
  | x :: r, h => by
    have a := depthAll_le (xs := r) fun y hy => h y (List.mem_cons_of_mem _ hy)
    have b := h x (List.mem_cons_self ..)
    show max x.depth (PyData.depthAll r) ≤ k
    omega
theorem sh_tup2 {k : Nat} {xs : List PyData} (h : ∀ x ∈ xs, x.depth ≤ k) : (PyData.tuple xs).depth ≤ k + 1 := by
  show PyData.depthAll xs + 1 ≤ k + 1
  have := depthAll_le h
  omega
theorem sh_tup1 {l : List Int} : (PyData.tuple (l.map .int)).depth ≤ 1 := sh_tup2 (k := 0) fun d hd => by
  obtain ⟨i, _, rfl⟩ := List.mem_map.mp hd
  show 0 ≤ 0
  omega
theorem pe_sortLam {T : List (Addr × Str)} {c P : Addr} {y : Str} {params : Arguments} {scope : Scope} {e : Expr} {te : TE} {p lpos pos kpos p1 p2 p3 p4 p5 : Pos} {k kk : Nat} (he : PE X e te) (hr : Room kk X.A)
    (hg : Gl X "sorted") (hm : X.mg "sorted" = none) (hml : X.mg "len" = none)
    (TB : TabB X.base X.mg c P) (hcode : X.env.code = .ref c) (hmT : (P, X.env.qual ++ "<lambda>") ∈ T) (hu : ∀ p ∈ T, p.1 = P → p.2 = X.env.qual ++ "<lambda>") (hdef : defaultsOf params X.env = ([], [])) (hnf : ∀ y ∈ scope.names, y.2 ≠ .free)
    (hbind : ∀ (q : Str) (cl : List (Str × Addr)) (pm cv ctv v : Value), bindArgs (kla_fn "<lambda>" q params (.Tuple [.Call (.Name "len" p1) [.Name y p2] [] p3, .Name y p4] k p5) scope cl pm cv ctv) ⟨[v], []⟩ = pure [(y, v)])
    (hy : scope.names.lookup y = some .local) (hl : scope.names.lookup ("len" : Str) = some .globalImplicit) (hcell : ∀ x ∈ scope.names, x.2 ≠ .cell) (hco : scope.isCoroutine = false) (hgen : scope.isGenerator = false) (hk : scope.kind = .function) (hdy : (y == ("__debug__" : Str)) = false)
    (na : starEach [e] X.env = (false, eval e X.env) :: starEach [] X.env := by rfl) (hpl : (backTo pos (starEach [e] X.env)).any (·.1) = false := by rfl) :
    PE X (.Call (.Name "sorted" p) [e] [⟨some "key", .Lambda params (.Tuple [.Call (.Name "len" p1) [.Name y p2] [] p3, .Name y p4] k p5) scope lpos, kpos⟩] pos) (tSortL T X.K te) := by
  refine ⟨fun pins s σ H Q I h => ?_⟩
  refine wpAny_Call_Name_kw (ld_blt I hg hm (by decide +kernel : bootBuiltins "sorted" = some (.builtin "sorted")) ?_)
  refine PyProof.Rows.callWith_kw (one_arg he I h (fun v s1 x H1 I1 r1 q1 => ?_) na) (by rw [na]; rfl) hpl rfl rfl
  obtain ⟨a, xs, Ls, rfl, hS, hP, hlen, hT, q⟩ := q1
  obtain rfl : v = Value.ref a := r1
  show wpAny _ _ (evalAll ((do let v ← eval (.Lambda params (.Tuple [.Call (.Name "len" p1) [.Name y p2] [] p3, .Name y p4] k p5) scope lpos) X.env; standAt pos; pure v) :: [])) _ _ s1
  refine wpAny_evalAll_cons (wpAny_bind (lam_make2 I1 TB hcode hmT hu hT hdef (fun y hy e => absurd e (hnf y hy)) fun f c' pm ctv H2 s2 I2 eN T2 hf hfn hfr hc => wpAny_bind (wpAny_standAt (wpAny_pure ?_))))
  refine wpAny_evalAll_nil ?_
  show wpAny (model X.prog X.w) X.A (call (.builtin "sorted") [.ref a] [(Str.ofString "key", .ref f)]) _ _ s2
  obtain ⟨mb, hb1, hb2⟩ := I2.mod.blt
  have LA : LamAt s2.heap f c' (X.env.qual ++ "<lambda>") y params (.Tuple [.Call (.Name "len" p1) [.Name y p2] [] p3, .Name y p4] k p5) scope (cloFrom X.env.cells scope.names []) pm ctv X.mg mb := by
    obtain ⟨⟨oc, vs, t, g1, g2, g3⟩, _⟩ := I2.hok c' _ hc
    refine ⟨hf, ⟨c', oc, vs, t, rfl, g1, g2, g3⟩, I2.nolimit, I2.mod.glob.keeps I2.bk, hb1.keeps I2.bk⟩
  obtain ⟨its, rv, pl, hz⟩ := I2.list (hS.extN eN)
  have hE : EachIs (fun u l => ∃ b, u = Value.ref b ∧ V.ref b ∈ xs ∧ H2 b = some (.tup (l.map V.int))) its Ls := each_of (R := fun v l => v ∈ xs ∧ ∃ b, v = V.ref b ∧ H1 b = some (.tup (l.map V.int))) (fun v u l ⟨hv, b, e, z⟩ r => by
    subst e
    exact ⟨b, r, hv, eN _ _ z fun _ z => by cases z⟩) (paired_mem hP) rv
  have lLs : Ls.length = its.length := hE.length.symm
  refine sorted_key_data (R := fun u l => ∃ b, u = Value.ref b ∧ V.ref b ∈ xs ∧ H2 b = some (.tup (l.map V.int))) (b := false) lenKey pl.isList hE (AllAlike.of fun l l' => ?_) (Sortable.tuples fun l => ⟨_, _, rfl⟩) (by rw [lLs, ← rv.length]; exact hz) (fun l _ => ?_)
    (ksk_s1 _ _) (fun x => ksk_l1 _ _) (fun x => ksk_t1 f x) (fun v l hR hl' h tk kp => ?_) fun out c0 h' tk kp fr hD ho hO => ?_
  · show alikeAll [.int l.length, .tuple (l.map .int)] [.int l'.length, .tuple (l'.map .int)] = true
    have e := alike_ints l l'
    simp [alikeAll, alike, e]
  · have hun := hr.units
    have hd : (lenKey l).depth ≤ 2 := by
      refine (sh_tup2 fun d hd => ?_)
      rcases List.mem_cons.mp hd with rfl | hd
      · show 0 ≤ 1; omega
      · rw [List.mem_singleton.mp hd]
        exact sh_tup1
    omega
  · obtain ⟨b, rfl, hb, hq⟩ := hR
    obtain ⟨us, rv2, ht2, _⟩ := I2.tuple (SqT.of hq)
    exact key_turn (s := { s2 with heap := h, toks := tk }) (LA.keeps kp) hml ((hb2 _ (by decide)).trans (by decide +kernel)) (hbind _ _ _ _ _ _) hy hl hcell hco hgen hk hdy (by have := hr.dp; show X.A.depth < _; omega) (ht2.keeps kp) rv2 (hlen l hl')
  · obtain ⟨out', hp', hv'⟩ := back_of (R := fun v l => v ∈ xs ∧ ∃ b, v = V.ref b ∧ H2 b = some (.tup (l.map V.int))) (fun u l ⟨b, e, hb, hq⟩ => ⟨.ref b, ⟨hb, b, rfl, hq⟩, e⟩) hO
    have hl1 : out'.length = xs.length := by
      rw [hv'.length, ho, lLs, ← rv.length]
    refine ⟨.ref (s2.heap.objs.size + 1), upd H2 (s2.heap.objs.size + 1) (.lst out'), I2.laid (t' := tk) kp (Nat.le_succ _) ⟨by rw [hl1]; exact hz, out, c0, hv', hD⟩, rfl, q _ _ _ eN T2 (I2.hok.fresh (Nat.le_succ _)) hp'⟩
end
end L2

namespace Dv
open PySem PySem.Spec PySem.W L2 DvC LamX
open PyProof.Rows hiding St
/-- the lots as they are made one thing behind another -/
def buildL (m : Nat) : Nat → List (List Nat)
  | 0 => [[]]
  | n + 1 => buildL m n ++ ((buildL m n).filter fun l => decide (l.length < m)).map fun l => l ++ [n]
def lotsL (n m : Nat) : List (List Nat) := (List.range (m + 1)).flatMap (combs n)
def toI (l : List Nat) : List Int := l.map fun (j : Nat) => (j : Int)
def chkL (n m : Nat) : Bool :=
  (buildL m n).isPerm (lotsL n m) && decide ((lotsL n m).Pairwise fun a b => dataLe false lenKey (toI a) (toI b) = true) && (lotsL n m).all fun a => (lotsL n m).all fun b => !(dataLe false lenKey (toI a) (toI b) && dataLe false lenKey (toI b) (toI a)) || decide (a = b)
theorem chk_all : ∀ n, n < 8 → ∀ m, m < 4 → chkL n m = true := by decide +kernel
theorem sort_lots {n m : Nat} (hn : n < 8) (hm : m < 4) : ((buildL m n).map toI).mergeSort (dataLe false lenKey) = (lotsL n m).map toI := by
  have h := chk_all n hn m hm
  unfold chkL at h
  rw [Bool.and_eq_true, Bool.and_eq_true] at h
  obtain ⟨⟨h1, h2⟩, h3⟩ := h
  have hp : (buildL m n).Perm (lotsL n m) := List.isPerm_iff.mp h1
  have h2 := of_decide_eq_true h2
  have T : TotalLe (dataLe false lenKey) := sortLe_total _ _ _
  have q1 : (((buildL m n).map toI).mergeSort (dataLe false lenKey)).Perm ((lotsL n m).map toI) := (List.mergeSort_perm _ _).trans (hp.map toI)
  refine List.Perm.eq_of_pairwise (le := fun a b => dataLe false lenKey a b = true) (fun a b ha hb l1 l2 => ?_) (sort_pairwise T _) (List.pairwise_map.mpr h2) q1
  obtain ⟨a', ha', rfl⟩ := List.mem_map.mp (q1.mem_iff.mp ha)
  obtain ⟨b', hb', rfl⟩ := List.mem_map.mp hb
  have z := List.all_eq_true.mp (List.all_eq_true.mp h3 a' ha') b' hb'
  rw [l1, l2] at z
  have e : a' = b' := by simpa using z
  rw [e]
/-- a tuple of ints -/
def tupD (l : List Int) : PyData := .tuple (l.map .int)
theorem tupD_toI (l : List Nat) : tupD (toI l) = lotD l := by
  unfold tupD toI lotD
  rw [List.map_map]
  rfl
section
variable {K : PySem.W.Frag} {T : List (Addr × Str)} {W : Wd K T} {G : Dv.Ctx} {te : TE}
theorem tups_of {H : Hp} : ∀ {Ls : List (List Int)} {xs : List V}, DAll W H xs (Ls.map tupD) → Paired (fun v l => ∃ b, v = V.ref b ∧ H b = some (.tup (l.map V.int))) xs Ls
  | [], _, .nil => .nil
  | l :: r, _, .cons a t => by
    obtain ⟨b, ys, rfl, nb, hb, al⟩ := D.tup_inv (ds := l.map .int) a
    have e := ints_of al
    subst e
    exact .cons ⟨b, rfl, hb⟩ (tups_of t)
theorem all_tups {H : Hp} : ∀ {Ls : List (List Int)} {out : List V}, Paired (fun v l => ∃ b, v = V.ref b ∧ ¬ W.X b ∧ H b = some (.tup (l.map V.int))) out Ls → DAll W H out (Ls.map tupD)
  | [], _, .nil => .nil
  | l :: r, _, .cons ⟨b, e, nb, hb⟩ t => by
    subst e
    refine .cons (.tup nb hb ?_) (all_tups t)
    have ai : ∀ l : List Int, DAll W H (l.map V.int) (l.map PyData.int) := fun l => by
      induction l with
      | nil => exact .nil
      | cons x r ih => exact .cons (.int x) ih
    exact ai l
/-- sorted(e, key=lambda y: (len(y), y)) -/
theorem el_sortL {Ls : List (List Int)} (h : E K T te G (· = .list (Ls.map tupD))) (hl : ∀ l ∈ Ls, l.length ≤ 1000) : EL K T (tSortL T K te) G (· = (Ls.mergeSort (dataLe false lenKey)).map tupD) := fun W σ H s j Q q => h W σ H s j _ fun v d H1 e1 j1 dv p => by
  subst p
  obtain ⟨a, xs, rfl, nx, ha, al⟩ := dv.lst_inv
  refine ⟨a, xs, Ls, rfl, SqL.of ha, tups_of al, hl, W.jT j1, fun H2 p out eN T2 hp ho => ?_⟩
  have j2 := W.jt j1 eN T2
  have e2 : Ex W H1 H2 := Ex.extN eN
  have hx : ∀ v ∈ xs, ∀ b, v = V.ref b → ¬ W.X b := fun v hv b eb => by
    obtain ⟨i, hi, e⟩ := List.mem_iff_getElem.mp hv
    obtain ⟨d, h1, h2⟩ := al.getV (i := i) (v := v) (by rw [List.getElem?_eq_getElem hi, e])
    obtain ⟨l, hl', rfl⟩ := List.mem_map.mp (List.mem_of_getElem? h1)
    subst eb
    obtain ⟨b', ys, e', nb, _⟩ := D.tup_inv (ds := l.map .int) h2
    cases e'
    exact nb
  have al2 : DAll W H2 out ((Ls.mergeSort (dataLe false lenKey)).map tupD) := all_tups (L2.Paired.mapP ho fun v l ⟨hv, b, e, hb⟩ => ⟨b, e, hx v hv b e, hb⟩)
  exact q p out _ _ ((Fr.new hp).pre (e1.trans e2)) (j_new j2 hp) (new_ne j2 hp) upd_same (al2.mono (.new hp)) rfl
end
/-- a def whose code object is known -/
structure FunC (K : PySem.W.Frag) (x qual : Str) (st : Stmt) (f : Addr) (fd : FuncData) (c : Addr) : Prop where
  ex : ∃ (oc : Value) (od : Option Addr) (kV doc pm : Value) (an : Option Addr) (ct : Value) (osl : Array (Option Value)),
    fd = PySem.W.fnOf x qual (defArgs st) (defBody st) (defScope st) .none kV doc pm an (.ref c) ct ∧ K.lookup f = some ⟨oc, od, .func fd, osl⟩ ∧ PySem.W.codeIn K (.ref c) qual = true
  kp : PySem.W.keepIn K (.ref f) = true
section
variable {P : Program} {w : World} {K : PySem.W.Frag} {mg : Str → Option Value} {base : Heap} {T : List (Addr × Str)}
theorem FunC.fun_ {x qual : Str} {st : Stmt} {f : Addr} {fd : FuncData} {c : Addr} (F : FunC K x qual st f fd c) : L2.Fun K x qual st f fd := by
  obtain ⟨oc, od, kV, doc, pm, an, ct, osl, e, lk, hcd⟩ := F.ex
  exact ⟨⟨oc, od, kV, doc, pm, an, _, ct, osl, e, lk, hcd⟩, F.kp⟩
theorem FunC.ok {x qual : Str} {st : Stmt} {f : Addr} {fd : FuncData} {c : Addr} {N ps : List Str} {k : Nat} {sp : Sp} (F : FunC K x qual st f fd c) (S : FnScope N ps (defScope st)) (len : ∀ vs H Q E, sp vs H Q E → vs.length = ps.length)
    (hbody : ∀ (A : Around) (outer : List Env) (s : Shared) (H : Hp) (vs : List V) (Q : VK) (E : XK), Room k (A.deeper (envOfC qual (defScope st) s.heap.objs.size f (.ref c))) → sp vs H Q E →
      ∃ t, PSs (cxOf CX0 P w K mg base N qual (defScope st) f (.ref c) A outer s H E).nox (defBody st) t ∧ t { nx := fun _ H' => Q .non H', rt := Q } (L2.start N vs) H) : FnOk P w K mg base CX0 (k + 1) f fd ps sp := by
  obtain ⟨oc, od, kV, doc, pm, an, ct, osl, rfl, lk, hcd⟩ := F.ex
  refine fn_of lk hcd S len fun A outer s H vs Q E hr hsp => ?_
  obtain ⟨t, ht, q⟩ := hbody A outer s H vs Q E hr hsp
  exact ⟨t, ht.nox, q⟩
theorem ok_defDLC {x qual : Str} {st : Stmt} {f : Addr} {fd : FuncData} {c : Addr} {N ps : List Str} {k : Nat} {pre : List PyData → Prop} {F : List PyData → List PyData} (Fn : FunC K x qual st f fd c) (Sc : FnScope N ps (defScope st)) (hl : ∀ ds, pre ds → ds.length = ps.length)
    (hbody : ∀ (A : Around) (outer : List Env) (s : Shared) (H : Hp) (E' : XK), Room k (A.deeper (envOfC qual (defScope st) s.heap.objs.size f (.ref c))) →
      ∃ t, PSs (cxOf CX0 P w K mg base N qual (defScope st) f (.ref c) A outer s H E').nox (defBody st) t ∧ ∀ ds, pre ds → S K T t (startG N (dats ds)) { rl := (· = F ds) }) : FnOk P w K mg base CX0 (k + 1) f fd ps (spDL K T pre F) := by
  refine FunC.ok Fn Sc (fun vs H Q E' ⟨W, os, j, dv, ⟨ds, e, hp⟩, _⟩ => (Paired.length dv).trans (by rw [e, dats, List.length_map]; exact hl ds hp)) fun A outer s H vs Q E' hr ⟨W, os, j, dv, ⟨ds, e, hp⟩, q⟩ => ?_
  obtain ⟨t, ht, hs⟩ := hbody A outer s H E' hr
  subst e
  exact ⟨t, ht, hs ds hp W _ _ H (start_sl dv) j ⟨fun _ _ _ _ _ _ f => f.elim, fun _ _ _ _ _ _ f => f.elim, fun p xs ds' H' f j' n h al z => q p xs ds' H' f j' n h al ⟨ds, rfl, z⟩, fun _ _ _ _ _ _ f => f.elim, fun _ _ _ _ _ _ f => f.elim⟩⟩
end
end Dv

/-! sorted(e, key=lambda y: -y[1]), e a list of pairs of anything and an int -/
namespace DvS
open PySem PySem.Spec PySem.W PyProof.Rows
section
variable {prog : Program} {w : World} {A : Around} {s : Shared}
/-- the lambda called of a pair -/
theorem key_neg {f c' b : Addr} {qual y : Str} {params : Arguments} {scope : Scope} {clos : List (Str × Addr)} {pm ctv u0 : Value} {mg mb : Str → Option Value} {p1 p2 p3 p4 : Pos} {k : Nat} {wt : Int} {tk : Tok}
    (L : LamAt s.heap f c' qual y params (.UnaryOp .USub (.Subscript (.Name y p1) (.Constant (.int 1) k p2) p3) p4) scope clos pm ctv mg mb)
    (hbind : bindArgs (kla_fn (Str.ofString "<lambda>") qual params (.UnaryOp .USub (.Subscript (.Name y p1) (.Constant (.int 1) k p2) p3) p4) scope clos pm (.ref c') ctv) ⟨[.ref b], []⟩ = pure [(y, .ref b)])
    (hy : scope.names.lookup y = some .local) (hcell : ∀ x ∈ scope.names, x.2 ≠ .cell) (hco : scope.isCoroutine = false) (hgen : scope.isGenerator = false) (hk : scope.kind = .function) (hdy : (y == ("__debug__" : Str)) = false)
    (hroom : A.depth < recursionLimit) (ht : IsTup s.heap b #[u0, .int wt tk]) : wpAny (model prog w) A (call (.ref f) [.ref b]) (KeyPure (.int (-wt)) s) (fun _ _ => False) s := by
  refine wpAny_call (kla_callFunE hroom L.fo rfl hco hgen rfl L.cr ?_)
  rw [hbind]
  refine wpAny_pure (wpAny_newFunctionEnv hcell (fun x hx => by rw [List.mem_singleton.mp hx]; exact hy) (fun h₁ hns hsb => ⟨L.lim.fresh _ hsb, kla_codeExpr ?_⟩) hk)
  have k1 : ∀ b o, s.heap.get? b = some o → h₁.get? b = some o := fun b o e => hsb.extBut b o (Nat.ne_of_lt (Heap.lt_size e)) (Heap.get?_push_of_some _ e)
  have t1 : IsTup h₁ b #[u0, .int wt tk] := ht.keeps k1
  have hvy : ([(y, Value.ref b)] : List (Str × Value)).reverse.lookup y = some (.ref b) := by
    show List.lookup y [(y, Value.ref b)] = _
    rw [List.lookup_cons, beq_self_eq_true]
  refine UnaryOp_ (Subscript_ (wpAny_Name (wpAny_loadName_local hk hy hns hvy ?_) hdy))
  refine wpAny_Constant_int (item_tuple (j := 1) (x := .int wt tk) t1 (by decide) (by decide) rfl rfl ?_)
  exact neg_int ⟨h₁, _, rfl, k1, .int _ _⟩
end
end DvS
namespace L2
open PySem PySem.Spec PySem.W PyProof.Rows LamX DvS
/-- what is sorted: a value, an int, and a remark of which nothing is asked -/
abbrev Pr := V × Int × PyData
def negKey (p : Pr) : PyData := .int (-p.2.1)
def tSortN (T : List (Addr × Str)) (K : PySem.W.Frag) (te : TE) : TE := fun σ H Q => te σ H fun x H1 => ∃ (a : Addr) (xs : List V) (Ps : List Pr), x = .ref a ∧ SqL K H1 a xs ∧ Paired (fun v p => ∃ b, v = V.ref b ∧ H1 b = some (.tup [p.1, .int p.2.1])) xs Ps ∧ Tabs T H1 ∧
  ∀ (H2 : Hp) (p : Addr) (out : List V), ExtN H1 H2 → Tabs T H2 → H2 p = none → Paired (fun v q => v ∈ xs ∧ ∃ b, v = V.ref b ∧ H2 b = some (.tup [q.1, .int q.2.1])) out (Ps.mergeSort (dataLe false negKey)) → Q (.ref p) (upd H2 p (.lst out))
section
variable {X : Cx} {α : Type}
theorem each_ofG {R : V → α → Prop} {S : Value → α → Prop} (h : ∀ v u l, R v l → RelV v u → S u l) : ∀ {xs : List V} {us : List Value} {Ls : List α}, Paired R xs Ls → Vals xs us → EachIs S us Ls
  | _, _, _, .nil, .nil => .nil
  | _, _, _, .cons a t, .cons b u => .cons (h _ _ _ a b) (each_ofG h t u)
theorem back_ofG {R : V → α → Prop} {S : Value → α → Prop} (h : ∀ u l, S u l → ∃ v, R v l ∧ RelV v u) : ∀ {us : List Value} {Ls : List α}, EachIs S us Ls → ∃ xs, Paired R xs Ls ∧ Vals xs us
  | _, _, .nil => ⟨[], .nil, .nil⟩
  | _, _, .cons a t => by
    obtain ⟨v, r, e⟩ := h _ _ a
    obtain ⟨xs, r2, e2⟩ := back_ofG h t
    exact ⟨v :: xs, .cons r r2, .cons e e2⟩
theorem pe_sortNeg {T : List (Addr × Str)} {c P : Addr} {y : Str} {params : Arguments} {scope : Scope} {e : Expr} {te : TE} {p lpos pos kpos p1 p2 p3 p4 : Pos} {k kk : Nat} (he : PE X e te) (hr : Room kk X.A)
    (hg : Gl X "sorted") (hm : X.mg "sorted" = none)
    (TB : TabB X.base X.mg c P) (hcode : X.env.code = .ref c) (hmT : (P, X.env.qual ++ "<lambda>") ∈ T) (hu : ∀ p ∈ T, p.1 = P → p.2 = X.env.qual ++ "<lambda>") (hdef : defaultsOf params X.env = ([], [])) (hnf : ∀ y ∈ scope.names, y.2 ≠ .free)
    (hbind : ∀ (q : Str) (cl : List (Str × Addr)) (pm cv ctv v : Value), bindArgs (kla_fn "<lambda>" q params (.UnaryOp .USub (.Subscript (.Name y p1) (.Constant (.int 1) k p2) p3) p4) scope cl pm cv ctv) ⟨[v], []⟩ = pure [(y, v)])
    (hy : scope.names.lookup y = some .local) (hcell : ∀ x ∈ scope.names, x.2 ≠ .cell) (hco : scope.isCoroutine = false) (hgen : scope.isGenerator = false) (hk : scope.kind = .function) (hdy : (y == ("__debug__" : Str)) = false)
    (na : starEach [e] X.env = (false, eval e X.env) :: starEach [] X.env := by rfl) (hpl : (backTo pos (starEach [e] X.env)).any (·.1) = false := by rfl) :
    PE X (.Call (.Name "sorted" p) [e] [⟨some "key", .Lambda params (.UnaryOp .USub (.Subscript (.Name y p1) (.Constant (.int 1) k p2) p3) p4) scope lpos, kpos⟩] pos) (tSortN T X.K te) := by
  refine ⟨fun pins s σ H Q I h => ?_⟩
  refine wpAny_Call_Name_kw (ld_blt I hg hm (by decide +kernel : bootBuiltins "sorted" = some (.builtin "sorted")) ?_)
  refine PyProof.Rows.callWith_kw (one_arg he I h (fun v s1 x H1 I1 r1 q1 => ?_) na) (by rw [na]; rfl) hpl rfl rfl
  obtain ⟨a, xs, Ps, rfl, hS, hP, hT, q⟩ := q1
  obtain rfl : v = Value.ref a := r1
  show wpAny _ _ (evalAll ((do let v ← eval (.Lambda params (.UnaryOp .USub (.Subscript (.Name y p1) (.Constant (.int 1) k p2) p3) p4) scope lpos) X.env; standAt pos; pure v) :: [])) _ _ s1
  refine wpAny_evalAll_cons (wpAny_bind (lam_make2 I1 TB hcode hmT hu hT hdef (fun y hy e => absurd e (hnf y hy)) fun f c' pm ctv H2 s2 I2 eN T2 hf hfn hfr hc => wpAny_bind (wpAny_standAt (wpAny_pure ?_))))
  refine wpAny_evalAll_nil ?_
  show wpAny (model X.prog X.w) X.A (call (.builtin "sorted") [.ref a] [(Str.ofString "key", .ref f)]) _ _ s2
  obtain ⟨mb, hb1, hb2⟩ := I2.mod.blt
  have LA : LamAt s2.heap f c' (X.env.qual ++ "<lambda>") y params (.UnaryOp .USub (.Subscript (.Name y p1) (.Constant (.int 1) k p2) p3) p4) scope (cloFrom X.env.cells scope.names []) pm ctv X.mg mb := by
    obtain ⟨⟨oc, vs, t, g1, g2, g3⟩, _⟩ := I2.hok c' _ hc
    refine ⟨hf, ⟨c', oc, vs, t, rfl, g1, g2, g3⟩, I2.nolimit, I2.mod.glob.keeps I2.bk, hb1.keeps I2.bk⟩
  obtain ⟨its, rv, pl, hz⟩ := I2.list (hS.extN eN)
  have hE : EachIs (fun u (l : Pr) => ∃ b, u = Value.ref b ∧ V.ref b ∈ xs ∧ H2 b = some (.tup [l.1, .int l.2.1])) its Ps := each_ofG (R := fun v (l : Pr) => v ∈ xs ∧ ∃ b, v = V.ref b ∧ H1 b = some (.tup [l.1, .int l.2.1])) (fun v u l ⟨hv, b, e, z⟩ r => by
    subst e
    exact ⟨b, r, hv, eN _ _ z fun _ z => by cases z⟩) (paired_mem hP) rv
  have lLs : Ps.length = its.length := hE.length.symm
  refine sorted_key_data (R := fun u (l : Pr) => ∃ b, u = Value.ref b ∧ V.ref b ∈ xs ∧ H2 b = some (.tup [l.1, .int l.2.1])) (b := false) negKey pl.isList hE (AllAlike.of fun l l' => rfl) (Sortable.others (enc := negKey) fun l => ⟨(fun z => (by cases z)), (fun _ z => (by cases z))⟩) (by rw [lLs, ← rv.length]; exact hz) (fun l _ => ?_)
    (ksk_s1 _ _) (fun x => ksk_l1 _ _) (fun x => ksk_t1 f x) (fun v l hR hl' h tk kp => ?_) fun out c0 h' tk kp fr hD ho hO => ?_
  · have hun := hr.units
    have hd : (negKey l).depth ≤ 2 := by
      show 0 ≤ 2
      omega
    omega
  · obtain ⟨b, rfl, hb, hq⟩ := hR
    obtain ⟨us, rv2, ht2, _⟩ := I2.tuple (SqT.of hq)
    cases rv2 with
    | @cons _ u0 _ ur r0 rr =>
    cases rr with
    | @cons _ u1 _ ur2 r1 rr2 =>
    cases rr2
    obtain ⟨tw, rfl⟩ := r1
    exact key_neg (s := { s2 with heap := h, toks := tk }) (LA.keeps kp) (hbind _ _ _ _ _ _) hy hcell hco hgen hk hdy (by have := hr.dp; show X.A.depth < _; omega) (ht2.keeps kp)
  · obtain ⟨out', hp', hv'⟩ := back_ofG (R := fun v (l : Pr) => v ∈ xs ∧ ∃ b, v = V.ref b ∧ H2 b = some (.tup [l.1, .int l.2.1])) (fun u l ⟨b, e, hb, hq⟩ => ⟨.ref b, ⟨hb, b, rfl, hq⟩, e⟩) hO
    have hl1 : out'.length = xs.length := by
      rw [hv'.length, ho, lLs, ← rv.length]
    refine ⟨.ref (s2.heap.objs.size + 1), upd H2 (s2.heap.objs.size + 1) (.lst out'), I2.laid (t' := tk) kp (Nat.le_succ _) ⟨by rw [hl1]; exact hz, out, c0, hv', hD⟩, rfl, q _ _ _ eN T2 (I2.hok.fresh (Nat.le_succ _)) hp'⟩
end
end L2
namespace Dv
open PySem PySem.Spec PySem.W L2 LamX DvS
open PyProof.Rows hiding St
section
variable {K : PySem.W.Frag} {T : List (Addr × Str)} {W : Wd K T} {G : Dv.Ctx} {te : TE}
/-- a row: a thing and its weight -/
def rowD (p : PyData × Int) : PyData := .tuple [p.1, .int p.2]
def fallK (p : PyData × Int) : PyData := .int (-p.2)
theorem prs_of {H : Hp} : ∀ {rs : List (PyData × Int)} {xs : List V}, DAll W H xs (rs.map rowD) → ∃ Ps : List Pr, Paired (fun v p => ∃ b, v = V.ref b ∧ H b = some (.tup [p.1, .int p.2.1])) xs Ps ∧ Ps.map (fun p => (p.2.2, p.2.1)) = rs ∧ ∀ p ∈ Ps, D W H p.1 p.2.2
  | [], _, .nil => ⟨[], .nil, rfl, fun p hp => by cases hp⟩
  | (d, i) :: r, _, .cons a t => by
    obtain ⟨Ps, h1, h2, h3⟩ := prs_of t
    obtain ⟨b, ys, rfl, nb, hb, al⟩ := D.tup_inv (ds := [d, .int i]) a
    cases al with
    | @cons v0 _ _ _ a0 al =>
    cases al with
    | @cons v1 _ _ _ a1 al =>
    cases al
    cases a1.int_inv
    refine ⟨(v0, i, d) :: Ps, .cons ⟨b, rfl, hb⟩ h1, by rw [List.map_cons, h2], fun p hp => ?_⟩
    rcases List.mem_cons.mp hp with rfl | hp
    · exact a0
    · exact h3 p hp
theorem all_prs {H : Hp} : ∀ {Ps : List Pr} {out : List V}, Paired (fun v p => ∃ b, v = V.ref b ∧ ¬ W.X b ∧ H b = some (.tup [p.1, .int p.2.1])) out Ps → (∀ p ∈ Ps, D W H p.1 p.2.2) → DAll W H out ((Ps.map fun p => (p.2.2, p.2.1)).map rowD)
  | [], _, .nil, _ => .nil
  | p :: r, _, .cons ⟨b, e, nb, hb⟩ t, h => by
    subst e
    exact .cons (.tup nb hb (.cons (h p (List.mem_cons_self ..)) (.cons (.int _) .nil))) (all_prs t fun q hq => h q (List.mem_cons_of_mem _ hq))
def fallL (rs : List (PyData × Int)) : List (PyData × Int) := rs.mergeSort (dataLe false fallK)
theorem el_sortN {rs : List (PyData × Int)} (h : E K T te G (· = .list (rs.map rowD))) : EL K T (tSortN T K te) G (· = (fallL rs).map rowD) := fun W σ H s j Q q => h W σ H s j _ fun v d H1 e1 j1 dv p => by
  subst p
  obtain ⟨a, xs, rfl, nx, ha, al⟩ := dv.lst_inv
  obtain ⟨Ps, h1, h2, h3⟩ := prs_of al
  refine ⟨a, xs, Ps, rfl, SqL.of ha, h1, W.jT j1, fun H2 p out eN T2 hp ho => ?_⟩
  have j2 := W.jt j1 eN T2
  have e2 : Ex W H1 H2 := Ex.extN eN
  have hx : ∀ v ∈ xs, ∀ b, v = V.ref b → ¬ W.X b := fun v hv b eb => by
    obtain ⟨i, hi, e⟩ := List.mem_iff_getElem.mp hv
    obtain ⟨d, g1, g2⟩ := al.getV (i := i) (v := v) (by rw [List.getElem?_eq_getElem hi, e])
    obtain ⟨l, hl', rfl⟩ := List.mem_map.mp (List.mem_of_getElem? g1)
    subst eb
    obtain ⟨b', ys, e', nb, _⟩ := D.tup_inv (ds := [l.1, .int l.2]) g2
    cases e'
    exact nb
  have em : (Ps.mergeSort (dataLe false negKey)).map (fun p => (p.2.2, p.2.1)) = fallL rs := by
    have z := List.map_mergeSort (r := dataLe false negKey) (s := dataLe false fallK) (f := fun p : Pr => (p.2.2, p.2.1)) (l := Ps) fun a _ b _ => rfl
    rw [z, h2]
    rfl
  have al2 : DAll W H2 out ((fallL rs).map rowD) := by
    rw [← em]
    exact all_prs (L2.Paired.mapP ho fun v l ⟨hv, b, e, hb⟩ => ⟨b, e, hx v hv b e, hb⟩) fun p hp => (h3 p ((List.mergeSort_perm _ _).mem_iff.mp hp)).mono e2
  exact q p out _ _ ((Fr.new hp).pre (e1.trans e2)) (j_new j2 hp) (new_ne j2 hp) upd_same (al2.mono (.new hp)) rfl
end
end Dv

/-! a list that grows now and then: x = []; for ..: if ..: x.append(e) -/
namespace Dv
open PySem PySem.Spec L2
open PyProof.Rows hiding St
section
variable {K : PySem.W.Frag} {T : List (Addr × Str)} {W W2 : Wd K T} {G : Ctx} {te : TE} {tt : TT} {t u : TS} {F : EndG}
/-- one turn: the statement puts one or nothing behind the list at p -/
def SM (K : PySem.W.Frag) (T : List (Addr × Str)) (t : TS) (p : Addr) (G : Ctx) (R : Ctx → List PyData → Prop) : Prop := ∀ (W : Wd K T) (hp : ¬ W.X p) (xs : List V) (D' : Ends) (σ : L2.St) (H : Hp), xs.length ≤ 200000 → Sl (W.hide p hp xs) H σ G → (W.hide p hp xs).J H →
  (∀ σ' H1 G3 vs ys, Ex (W.hide p hp xs) H H1 → W.J H1 → H1 p = some (.lst (xs ++ vs)) → Sl (W.hide p hp xs) H1 σ' G3 → DAll (W.hide p hp xs) H1 vs ys → vs.length ≤ 1 → R G3 ys → D'.nx σ' H1) → t D' σ H
theorem sm_next {p : Addr} {R : Ctx → List PyData → Prop} (r : R G []) : SM K T tNext p G R := fun W hp xs D' σ H hl s j q => q σ H G [] [] (.refl H) j.1 (by rw [List.append_nil]; exact j.2) s .nil (Nat.zero_le _) r
theorem sm_app {k : Nat} {p : Addr} {P : PyData → Prop} {R : Ctx → List PyData → Prop} (hg : G[k]? = some (some (.fn p))) (h : E K T te G P) (r : ∀ d, P d → R G [d]) : SM K T (tDrop (tBM K "list" rAppend (tVar k) (tCons te tNil))) p G R := fun W hp xs D' σ H hl s j q => by
  obtain ⟨v0, h1, h2⟩ := s.at_ k _ hg
  cases h2 with
  | fn =>
    refine ⟨.ref p, h1, Or.inl ⟨rfl, xs, SqL.of j.2⟩, ?_⟩
    refine h (W.hide p hp xs) σ H s j _ fun v d H1 e1 j1 dv pv => ?_
    have eo : Ex (W.hide p hp xs) H1 (upd H1 p (.lst (xs ++ [v]))) := Ex.out (Ex.refl _) (show (W.hide p hp xs).X p from Or.inr rfl)
    exact ⟨p, xs, v, rfl, rfl, j1.2, Nat.lt_of_le_of_lt hl (by decide), q σ _ G [v] [d] (e1.trans eo) (W.ju j1.1 (.inr (.inl ⟨xs, j1.2⟩)) hp) upd_same ((s.mono e1).mono eo) (.one (dv.mono eo)) (Nat.le_refl _) (r d pv)⟩
theorem sm_if {b : Bool} {p : Addr} {R : Ctx → List PyData → Prop} (h : ET K T tt G (· = b)) (h1 : b = true → SM K T t p G R) (h2 : b = false → SM K T u p G R) : SM K T (tIfS tt t u) p G R := fun W hp xs D' σ H hl s j q => h (W.hide p hp xs) σ H s j _ fun c H1 e1 j1 pc => by
  subst pc
  have k : ∀ σ' H2 G3 vs ys, Ex (W.hide p hp xs) H1 H2 → W.J H2 → H2 p = some (.lst (xs ++ vs)) → Sl (W.hide p hp xs) H2 σ' G3 → DAll (W.hide p hp xs) H2 vs ys → vs.length ≤ 1 → R G3 ys → D'.nx σ' H2 := fun σ' H2 G3 vs ys e2 => q σ' H2 G3 vs ys (e1.trans e2)
  cases c with
  | true => exact iteT (h1 rfl W hp xs D' σ H1 hl (s.mono e1) j1 k)
  | false => exact iteF (h2 rfl W hp xs D' σ H1 hl (s.mono e1) j1 k)
theorem sm_seq {p : Addr} {R : Ctx → List PyData → Prop} (h : S K T t G { nx := fun G' => SM K T u p G' R }) : SM K T (tSeq t u) p G R := fun W hp xs D' σ H hl s j q =>
  h (W.hide p hp xs) { D' with nx := u D' } σ H s j ⟨fun σ' H' G' e j' s' f => f W hp xs D' σ' H' hl s' j' fun σ2 H2 G3 vs ys e2 => q σ2 H2 G3 vs ys (e.trans e2),
    fun _ _ _ _ _ _ f => f.elim, fun _ _ _ _ _ _ _ _ _ f => f.elim, fun _ _ _ _ _ _ f => f.elim, fun _ _ _ _ _ _ f => f.elim⟩
theorem s_accM {Ech : XK} {X : Xd → Prop} {k : Nat} {wi : TI} {g : TG} {tb : TS} {vs : List Nat} {n : Nat} {yd : Nat → PyData → Prop} (I : Nat → List PyData → Addr → Ctx → Prop) (hk : k < G.length) (hi : ∀ p, Iw K T wi (G.set k (some (.fn p))) n yd)
    (h0 : ∀ p, I 0 [] p (G.set k (some (.fn p)))) (hs : ∀ p i d acc G', i < n → yd i d → I i acc p G' → ∃ G2, Tg K T g vs d G' G2 ∧ SM K T tb p G2 (fun G3 ys => I (i + 1) (acc ++ ys) p G3))
    (hn : n ≤ 100000) (hd : ∀ p acc G', I n acc p G' → G'[k]? = some (some (.fn p)) ∧ SX K T Ech u (G'.set k (some (.dat (.list acc)))) F X) : SX K T Ech (tSeq (tAsg (tLst tNil) (gName k)) (tSeq (tFor wi g tb) u)) G F X := fun W D' σ H s j ok xo => by
  refine ⟨Nat.zero_le _, fun p np => ?_⟩
  have hp : ¬ W.X p := new_ne j np
  have s0 : Sl (W.hide p hp []) H σ G := s.to (hide_out np) rfl
  have eb : Ex W H (upd H p (.lst [])) := .new np
  have s1 : Sl (W.hide p hp []) (upd H p (.lst [])) (σ.set k (some (.ref p))) (G.set k (some (.fn p))) := (s0.mono (ex_hide eb)).set .fn
  refine hi p (W.hide p hp []) (σ.set k (some (.ref p))) _ s1 ⟨j_new j np, upd_same⟩ _ fun J' H2 Gd Y e2 j2 w hG hY => ?_
  have cp : ∀ ys, Cp (W.hide p hp []) (W.hide p hp ys) H2 := fun ys v d h => D.to (W := W.hide p hp []) (W2 := W.hide p hp ys) (fun _ _ _ n => n) h
  have ex : ∀ {ys zs : List V} {A B : Hp}, Ex (W.hide p hp ys) A B → Ex (W.hide p hp zs) A B := fun e => ⟨e.k⟩
  refine for_it w (fun i σ' H' => ∃ ys acc G', (W.hide p hp ys).J H' ∧ Ex (W.hide p hp []) H2 H' ∧ DAll (W.hide p hp ys) H' ys acc ∧ Sl (W.hide p hp ys) H' σ' G' ∧ I i acc p G' ∧ ys.length ≤ i)
    ⟨[], [], _, j2, .refl _, .nil, s1.mono e2, h0 p, Nat.le_refl _⟩ (fun i σ' H' _ ⟨ys, acc, G', jy, ez, al, sl, hI, hlen⟩ => hG (W.hide p hp ys) H' (cp ys) (ex ez)) (fun i x σ' H' H3 hin ⟨ys, acc, G', jy, ez, al, sl, hI, hlen⟩ y => ?_) fun σ' H' ⟨ys, acc, G', jy, ez, al, sl, hI, hlen⟩ => ?_
  · obtain ⟨e3, j3, d, dx, yx⟩ := hY (W.hide p hp ys) i H' x H3 (cp ys) hin (ex ez) jy y
    obtain ⟨G2, tg, hb⟩ := hs p i d acc G' hin yx hI
    refine tg (W.hide p hp ys) σ' H3 x (sl.mono e3) dx _ fun σ3 s3 _ _ => hb W hp ys _ σ3 H3 (by omega) s3 j3 fun σ4 H4 G3 zs zd e4 j4 h4 s4 dv lz rv => ?_
    refine ⟨ys ++ zs, acc ++ zd, G3, ⟨j4, h4⟩, ex ((ex ez : Ex (W.hide p hp ys) H2 H').trans (e3.trans e4)), ?_, ?_, rv, by rw [List.length_append]; omega⟩
    · exact hide_all (ys := ys) (((al.mono e3).mono e4).append dv)
    · exact Sl.to (W := W.hide p hp ys) (W2 := W.hide p hp (ys ++ zs)) (fun _ _ _ n => n) rfl s4
  · obtain ⟨hgk, hu⟩ := hd p acc G' hI
    have sW : Sl W H' σ' G' := Sl.to (W := W.hide p hp ys) (W2 := W) (fun _ _ _ n z => n (Or.inl z)) rfl sl
    obtain ⟨v, hv, hod⟩ := sW.at_ k _ hgk
    cases hod with
    | fn =>
      have eW : Ex W H H' := hide_ex (hp := hp) (ys := []) np (((ex_hide eb).trans e2).trans ez)
      exact hu W D' σ' H' (sl_put sW hv (.dat (.lst hp jy.2 (DAll.to (W := W.hide p hp ys) (W2 := W) (fun _ _ _ n z => n (Or.inl z)) al)))) jy.1 (ok.mono eW) (xo.mono eW)
end
end Dv

/-! a list of lambdas that is appended to -/
namespace Dv
open PySem PySem.Spec L2 LamX LamD
open PyProof.Rows hiding St
section
variable {K : PySem.W.Frag} {T : List (Addr × Str)} {W W2 : Wd K T} {G G2 : Ctx} {ta tb te : TE} {tt : TT} {t u : TS} {F : EndG} {X : Cx} {k : Nat}
/-- te gives a new list of the functions of which Fs tell -/
def EOL (K : PySem.W.Frag) (T : List (Addr × Str)) (te : TE) (G : Ctx) (Fs : List (LamG X k)) : Prop := ∀ (W : Wd K T) (σ : L2.St) (H : Hp), Sl W H σ G → W.J H → ∀ Q : VK,
  (∀ p vs l H', Fr W H p H' → W.J H' → ¬ W.X p → H' p = some (.lst vs) → Kept W H' l → (∀ q ∈ l, q.1 ≠ p) → Paired (atF l) vs Fs → Q (.ref p) H') → te σ H Q
theorem kept_ne {H : Hp} {l : List (Addr × HO)} {x : Addr} (h : Kept W H l) (hx : H x = none) : ∀ q ∈ l, q.1 ≠ x := fun q hq => ne_of_none (h q hq).1 hx
theorem eol_lst {Fs : List (LamG X k)} {tr : TA} (h : EA K T tr G (fun os => Paired arF os Fs)) (hl : Fs.length ≤ 100000) : EOL K T (tLst tr) G Fs := fun W σ H s j Q q => h W σ H s j _ fun vs os H1 e1 j1 dv p => by
  obtain ⟨l, h1, h2⟩ := gather dv p
  exact ⟨Nat.le_trans (by rw [Paired.length h2]; exact hl) (by decide), fun x hx => q x vs l _ ((Fr.new hx).pre e1) (j_new j1 hx) (new_ne j1 hx) upd_same (h1.mono (.new hx)) (kept_ne h1 hx) h2⟩
theorem eol_cat {Fs Gs : List (LamG X k)} (ha : EO K T ta G (isFs Fs)) (hb : EO K T tb G (isFs Gs)) (hl : Fs.length + Gs.length ≤ 100000) : EOL K T (tOp rCat ta tb) G (Fs ++ Gs) := fun W σ H s j Q q =>
  ha W σ H s j _ fun x o H1 e1 j1 dx px => hb W σ H1 (s.mono e1) j1 _ fun y u H2 e2 j2 dy py => by
    obtain ⟨a, xs, l, rfl, ma, pa⟩ := px
    obtain ⟨b, ys, m, rfl, mb, pb⟩ := py
    obtain ⟨rfl, ka⟩ := od_keep (dx.mono e2)
    obtain ⟨rfl, kb⟩ := od_keep dy
    refine ⟨a, b, xs, ys, rfl, rfl, (ka _ ma).1, (kb _ mb).1, Nat.le_trans (by rw [Paired.length pa, Paired.length pb]; exact hl) (by decide), fun p hp => q p (xs ++ ys) (l ++ m) _ ((Fr.new hp).pre (e1.trans e2)) (j_new j2 hp) (new_ne j2 hp) upd_same ((ka.app kb).mono (.new hp)) (kept_ne (ka.app kb) hp) ?_⟩
    exact paired_app (paired_mono (fun v F ⟨g, e, kg⟩ => ⟨g, e, kg.mono fun q hq => List.mem_append_left _ hq⟩) pa) (paired_mono (fun v F ⟨g, e, kg⟩ => ⟨g, e, kg.mono fun q hq => List.mem_append_right _ hq⟩) pb)
theorem eo_varF {i : Nat} {Fs : List (LamG X k)} {o : Ob} (ho : isFs Fs o) (hg : G[i]? = some (some o)) : EO K T (tVar i) G (isFs Fs) := fun W σ H s j Q q => eo_var hg W σ H s j Q fun v o' H' e j' dv z => q v o' H' e j' dv (by rw [z]; exact ho)
/-- the statement makes of the list at p, which holds Fs, one that holds Gs -/
def SW (K : PySem.W.Frag) (T : List (Addr × Str)) (t : TS) (p : Addr) (G : Ctx) (Fs Gs : List (LamG X k)) : Prop := ∀ (W : Wd K T) (hp : ¬ W.X p) (vs : List V) (l : List (Addr × HO)) (D' : Ends) (σ : L2.St) (H : Hp), Sl (W.hide p hp vs) H σ G → (W.hide p hp vs).J H → Kept W H l → (∀ q ∈ l, q.1 ≠ p) → Paired (atF l) vs Fs →
  (∀ vs' l' H1, Ex (W.hide p hp vs) H H1 → W.J H1 → H1 p = some (.lst vs') → Kept W H1 l' → (∀ q ∈ l', q.1 ≠ p) → Paired (atF l') vs' Gs → D'.nx σ H1) → t D' σ H
theorem kept_hide {H H1 : Hp} {l : List (Addr × HO)} {p : Addr} {hp : ¬ W.X p} {vs : List V} (h : Kept W H l) (n : ∀ q ∈ l, q.1 ≠ p) (e : Ex (W.hide p hp vs) H H1) : Kept W H1 l := fun q hq => ⟨e.k _ _ (h q hq).1 (h q hq).2.2 fun z => z.elim (h q hq).2.1 (n q hq), (h q hq).2⟩
theorem sw_next {p : Addr} {Fs : List (LamG X k)} : SW K T tNext p G Fs Fs := fun W hp vs l D' σ H s j kl nl pr q => q vs l H (.refl H) j.1 j.2 kl nl pr
theorem sw_app {i : Nat} {p : Addr} {Fs : List (LamG X k)} {F1 : LamG X k} (hg : G[i]? = some (some (.fn p))) (hl : Fs.length ≤ 1000) (h : EO K T te G (isF F1)) : SW K T (tDrop (tBM K "list" rAppend (tVar i) (tCons te tNil))) p G Fs (Fs ++ [F1]) := fun W hp vs l D' σ H s j kl nl pr q => by
  obtain ⟨v0, h1, h2⟩ := s.at_ i _ hg
  cases h2 with
  | fn =>
    refine ⟨.ref p, h1, Or.inl ⟨rfl, vs, SqL.of j.2⟩, ?_⟩
    refine h (W.hide p hp vs) σ H s j _ fun v o H1 e1 j1 dv po => ?_
    obtain ⟨f, l2, rfl, kf⟩ := po
    obtain ⟨rfl, k2⟩ := od_keep dv
    have n2 : ∀ q ∈ l2, q.1 ≠ p := fun q hq z => (k2 q hq).2.1 (.inr z)
    have k2' : Kept W H1 l2 := fun q hq => ⟨(k2 q hq).1, fun z => (k2 q hq).2.1 (.inl z), (k2 q hq).2.2⟩
    have kb := (kept_hide kl nl e1).app k2'
    have nb : ∀ q ∈ l ++ l2, q.1 ≠ p := fun q hq => (List.mem_append.mp hq).elim (nl q) (n2 q)
    have eo : Ex (W.hide p hp vs) H1 (upd H1 p (.lst (vs ++ [V.ref f]))) := Ex.out (Ex.refl _) (show (W.hide p hp vs).X p from Or.inr rfl)
    refine ⟨p, vs, .ref f, rfl, rfl, j1.2, Nat.lt_of_le_of_lt (show vs.length ≤ 1000 by rw [Paired.length pr]; exact hl) (by decide), ?_⟩
    refine q _ (l ++ l2) _ (e1.trans eo) (W.ju j1.1 (.inr (.inl ⟨vs, j1.2⟩)) hp) upd_same (fun a ha => ⟨?_, (kb a ha).2⟩) nb ?_
    · rw [upd_ne (nb a ha)]
      exact (kb a ha).1
    · exact paired_app (paired_mono (fun v F ⟨g, e, kg⟩ => ⟨g, e, kg.mono fun q hq => List.mem_append_left _ hq⟩) pr) (.cons ⟨f, rfl, kf.mono fun q hq => List.mem_append_right _ hq⟩ .nil)
theorem sw_seq {p : Addr} {Fs Gs Hs : List (LamG X k)} (h : SW K T t p G Fs Gs) (h' : SW K T u p G Gs Hs) : SW K T (tSeq t u) p G Fs Hs := fun W hp vs l D' σ H s j kl nl pr q =>
  h W hp vs l { D' with nx := u D' } σ H s j kl nl pr fun vs' l' H1 e1 j1 h1 k1 n1 p1 => h' W hp vs' l' D' σ H1 (Sl.to (W := W.hide p hp vs) (W2 := W.hide p hp vs') (fun _ _ _ n => n) rfl (s.mono e1)) ⟨j1, h1⟩ k1 n1 p1 fun vs2 l2 H2 e2 => q vs2 l2 H2 (e1.trans ⟨e2.k⟩)
theorem sw_if {b : Bool} {p : Addr} {Fs Gs : List (LamG X k)} (h : ET K T tt G (· = b)) (h1 : b = true → SW K T t p G Fs Gs) (h2 : b = false → SW K T u p G Fs Gs) : SW K T (tIfS tt t u) p G Fs Gs := fun W hp vs l D' σ H s j kl nl pr q => h (W.hide p hp vs) σ H s j _ fun c H1 e1 j1 pc => by
  subst pc
  have kq : ∀ vs' l' H2, Ex (W.hide p hp vs) H1 H2 → W.J H2 → H2 p = some (.lst vs') → Kept W H2 l' → (∀ q ∈ l', q.1 ≠ p) → Paired (atF l') vs' Gs → D'.nx σ H2 := fun vs' l' H2 e2 => q vs' l' H2 (e1.trans e2)
  cases c with
  | true => exact iteT (h1 rfl W hp vs l D' σ H1 (s.mono e1) j1 (kept_hide kl nl e1) nl pr kq)
  | false => exact iteF (h2 rfl W hp vs l D' σ H1 (s.mono e1) j1 (kept_hide kl nl e1) nl pr kq)
theorem sw_ifApp {b : Bool} {i : Nat} {p : Addr} {Fs : List (LamG X k)} {F1 : LamG X k} (ht : ET K T tt G (· = b)) (hg : G[i]? = some (some (.fn p))) (hl : Fs.length ≤ 1000) (h : EO K T te G (isF F1)) : SW K T (tIfS tt (tDrop (tBM K "list" rAppend (tVar i) (tCons te tNil))) tNext) p G Fs (Fs ++ (if b = true then [F1] else [])) :=
  sw_if ht (fun hb => by
    rw [if_pos hb]
    exact sw_app hg hl h) fun hb => by
    rw [if_neg (by rw [hb]; decide), List.append_nil]
    exact sw_next
/-- x = [f, ..]; x.append(g) .. -/
theorem s_works {i : Nat} {tl : TE} {Fs Gs : List (LamG X k)} (hl : EOL K T tl G Fs) (hi : i < G.length) (hs : ∀ p, SW K T t p (G.set i (some (.fn p))) Fs Gs) (hu : ∀ o, isFs Gs o → S K T u (G.set i (some o)) F) : S K T (tSeq (tAsg tl (gName i)) (tSeq t u)) G F := fun W D' σ H s j ok =>
  hl W σ H s j _ fun p vs l H1 f1 j1 hp h1 k1 n1 pr => by
    obtain ⟨H0, ea, na, eb⟩ := f1
    have s0 : Sl (W.hide p hp vs) H0 σ G := (s.mono ea).to (hide_out na) rfl
    have s1 : Sl (W.hide p hp vs) H1 (σ.set i (some (.ref p))) (G.set i (some (.fn p))) := (s0.mono (ex_hide eb)).set .fn
    refine hs p W hp vs l { D' with nx := u D' } (σ.set i (some (.ref p))) H1 s1 ⟨j1, h1⟩ k1 n1 pr fun vs' l' H2 e2 j2 h2 k2 n2 pr2 => ?_
    have eW : Ex W H H2 := ea.trans (hide_ex (hp := hp) (ys := vs) na ((ex_hide eb).trans e2))
    have sW : Sl W H2 (σ.set i (some (.ref p))) (G.set i (some (.fn p))) := Sl.to (W := W.hide p hp vs) (W2 := W) (fun _ _ _ n z => n (Or.inl z)) rfl (s1.mono e2)
    have sv := sW.set (i := i) (v := .ref p) (o := .keep (.ref p) ((p, .lst vs') :: l')) (.keep (k2.cons h2 hp))
    rw [List.set_set, List.set_set] at sv
    exact hu _ ⟨p, vs', _, rfl, List.mem_cons_self .., paired_mono (fun v F ⟨g, e, kg⟩ => ⟨g, e, kg.mono fun q hq => List.mem_cons_of_mem _ hq⟩) pr2⟩ W D' _ H2 sv j2 (ok.mono eW)
theorem s_works2 {i : Nat} {tl : TE} {t2 : TS} {Fs Gs Hs : List (LamG X k)} (hl : EOL K T tl G Fs) (hi : i < G.length) (hs : ∀ p, SW K T t p (G.set i (some (.fn p))) Fs Gs) (hs2 : ∀ p, SW K T t2 p (G.set i (some (.fn p))) Gs Hs) (hu : ∀ o, isFs Hs o → S K T u (G.set i (some o)) F) : S K T (tSeq (tAsg tl (gName i)) (tSeq t (tSeq t2 u))) G F :=
  show S K T (tSeq (tAsg tl (gName i)) (tSeq (tSeq t t2) u)) G F from s_works hl hi (fun p => sw_seq (hs p) (hs2 p)) hu
/-- x(f) != e -/
theorem ne_word {K' : PySem.W.Frag} {te tu : TE} {σ2 : L2.St} {H : Hp} {d : PyData} (s2 : Sl W H σ2 G2) (hw : ∀ Q : VK, (∀ v e H', Ex W H H' → W.J H' → D W H' v e → e = d → Q v H') → te σ2 H Q) (hu : E K T tu G2 (· = d)) (h0 : d.canLay0 = true) (h1 : SeqAt.shaped d = true) {Q : Bool → Hp → Prop} (q : ∀ H', Ex W H H' → W.J H' → Q false H') :
    tTest (tOp (rNeD K') te tu) σ2 H Q := by
  refine hw _ fun v e H1 e1 j1 dv p => hu W σ2 H1 (s2.mono e1) j1 _ fun u e' H2 e2 j2 du p' => ?_
  subst p p'
  refine ⟨_, _, (dv.mono e2).dp, du.dp, h1, h1, false, ?_, q H2 (e1.trans e2) j2⟩
  rw [PySem.SeqAt.eqv_refl e' h0]
  rfl
end
end Dv

/-! a comprehension whose tests and elements are read where the block's entry is known -/
namespace LamD
open PySem PySem.Spec PyProof.Rows L2 LamX
section
variable {X : Cx}
/-- what one turn asks: D the list that grows, Nx what holds behind the turn -/
def turnI (D : Addr) (tt : TT) (te : TE) (Nx : Hp → Prop) : L2.St → Hp → Prop := fun σ2 H4 => tt σ2 H4 fun b H5 => if b = true then te σ2 H5 fun y H6 => ∃ acc, H6 D = some (.lst acc) ∧ acc.length < sizeLine ∧ Nx (upd H6 D (.lst (acc ++ [y]))) else Nx H5
def tLcI (wi : TI) (g : TG) (tt : L2.St → TT) (te : TE) (vs : List Nat) : TE := fun σ H Q => wi σ H fun J H1 => ∀ D, H1 D = none → ∃ (n : Nat) (I : Nat → Hp → Prop), I 0 (upd H1 D (.lst [])) ∧ (∀ H2, I n H2 → J.stop n H2 ∧ Q (.ref D) H2) ∧
  ∀ i H2, i < n → I i H2 → J.go i H2 ∧ ∀ x H3, J.yld i H2 x H3 → g x (L2.wipe σ vs) H3 fun σ2 H4 => L2.wipe σ2 vs = L2.wipe σ vs ∧ turnI D (tt σ) te (I (i + 1)) σ2 H4
theorem loop_all {Y : Cx} {elt tg iter : Expr} {ifs : List Expr} {scope : Scope} {pos : Pos} {it D : Addr} {J : It} {fp : List Addr} {tn : Nat → Heap → Prop} {g : TG} {tt : TT} {te : TE} {vs : List Nat} {σ0 : L2.St} {H0 : Hp} {s0 : Shared} {R : Result → Shared → Prop} {n : Nat} {I : Nat → Hp → Prop}
    (hc : Y.calm = true) (hx : Y.xe = fun _ _ => False) (T : Turn Y.prog Y.w Y.K tg J fp it tn) (pg : PG Y tg g) (pt : PTs Y ifs tt) (pe : PE Y elt te)
    (ok : ∀ {σ' : L2.St} {H' : Hp} {s' : Shared}, Inv Y [] σ' H' s' → (∀ b ∈ fp, H' b = none) → ∀ b ∈ fp, FpOk Y [] H' b)
    (I0 : Inv Y [] σ0 H0 s0) (t0 : tn 0 s0.heap) (n0 : ∀ b ∈ fp, H0 b = none) (i0 : I 0 H0)
    (hgo : ∀ i H2, i < n → I i H2 → J.go i H2 ∧ ∀ x H3, J.yld i H2 x H3 → g x σ0 H3 fun σ2 H4 => L2.wipe σ2 vs = σ0 ∧ turnI D tt te (I (i + 1)) σ2 H4) (hstop : ∀ H2, I n H2 → J.stop n H2)
    (hR : ∀ s' H', Inv Y [] σ0 H' s' → I n H' → R (.ok .next) s') : codeAny (model Y.prog Y.w) Y.A (.compLoop (.ListComp elt [⟨tg, iter, ifs, 0⟩] scope pos) 0 (.ref it) (.ref D) Y.env) R s0 := by
  refine compLoop_any (fun m s' => ∃ i H', i + m = n ∧ Inv Y [] σ0 H' s' ∧ tn i s'.heap ∧ (∀ b ∈ fp, H' b = none) ∧ I i H') ?_ n ⟨0, H0, Nat.zero_add n, I0, t0, n0, i0⟩
  rintro m s1 ⟨i, H1, hm, I1, t1, n1, i1⟩
  by_cases hlt : i < n
  · obtain ⟨go, step⟩ := hgo i H1 hlt i1
    have ti := T.item Y rfl rfl rfl hc i [] s1 σ0 H1 (fun _ _ => False) I1 (ok I1 n1) t1 go
    refine thnF ti fun r s2 ⟨u, er, h2⟩ => ?_
    subst er
    refine thnF h2 fun _ s3 ⟨x, H3, I3, rx, y3, t3, n3⟩ => ?_
    have P3 := I3.pinned (ok I3 n3) (T.obj _ _ t3)
    have run := pg.run _ s3 σ0 H3 x u _ P3 rx (step x H3 y3)
    refine thnX hx run fun _ s4 ⟨σ4, H4, I4, w4, q4⟩ => ?_
    -- behind the turn
    have fin : ∀ {s5 : Shared} {H5 : Hp}, Inv Y ([] ++ pinsAt fp s3.heap) σ4 H5 s5 → I (i + 1) H5 → ∃ m', m' < m ∧ ∃ i' H', i' + m' = n ∧ Inv Y [] σ0 H' s5 ∧ tn i' s5.heap ∧ (∀ b ∈ fp, H' b = none) ∧ I i' H' := fun {s5 H5} I5 i5 => by
      have kept : ∀ b ∈ fp, ∀ o, s3.heap.get? b = some o → s5.heap.get? b = some o ∧ H5 b = none := fun b hb o e => by
        have z := I5.pin (b, o) (List.mem_append_right _ (List.mem_append_right _ (mem_pinsAt hb e)))
        exact ⟨z.1, z.2.1⟩
      refine ⟨m - 1, by omega, i + 1, H5, by omega, (I5.unpinned (pins := [])).weak (by rw [← w4, wipe_length]) (fun j v e => ?_), T.keep _ _ _ t3 fun b hb o e => (kept b hb o e).1, fun b hb => ?_, i5⟩
      · rw [← w4] at e
        exact (wipe_some e).1
      · obtain ⟨o, e, _⟩ := T.obj _ _ t3 b hb
        exact (kept b hb o e).2
    refine thnX hx (pt.run _ s4 σ4 H4 _ I4 q4) fun b s5 ⟨H5, I5, q5⟩ => ?_
    cases b with
    | false =>
      rw [if_neg Bool.false_ne_true] at q5 ⊢
      exact fin I5 q5
    | true =>
      rw [if_pos rfl] at q5 ⊢
      refine thnX hx (pe.run _ s5 σ4 H5 _ I5 q5) fun z s6 ⟨yv, H6, I6, r6, acc, hD6, hz6, nx⟩ => ?_
      exact app_ok (X := Y) I6 hD6 hz6 r6 fun s7 I7 => fin I7 nx
  · have en : i = n := by omega
    subst en
    refine thnF (T.done Y rfl rfl rfl hc i [] s1 σ0 H1 (fun _ _ => False) I1 (ok I1 n1) t1 (hstop H1 i1)) fun r s2 ⟨er, I2⟩ => ?_
    subst er
    exact hR s2 H1 I2 i1
theorem lcI {pins : List (Addr × Obj)} {s : Shared} {σ : L2.St} {H : Hp} {Q : VK} {elt tg iter : Expr} {ifs : List Expr} {scope : Scope} {own : List (Str × Nat)} {pos pos' : Pos} {wi : TI} {g : TG} {tt : L2.St → TT} {te : TE} {use : Option (Value → Sem Unit)} {Qf : Value → Shared → Prop}
    (hc : X.calm = true) (hN : X.N.Nodup) (I : Inv X pins σ H s) (hi : PI X tg iter wi) (ok : BlkOk X.N X.env.scope scope own)
    (hg : ∀ (s : Shared) (H : Hp) (ce : Env) (fp : List Addr), (∃ cl C, ce = compEnvC scope cl C X.env) → PG (X.blk s H scope ce fp) tg g)
    (ht : ∀ (pins : List (Addr × Obj)) (σ : L2.St) (s : Shared) (H : Hp) (C : Addr) (cl : List (Str × Addr)) (fp : List Addr), Inv X pins σ H s → Walked X pins H fp → PTs (X.blk s H scope (compEnvC scope cl C X.env) fp) ifs (tt σ))
    (he : ∀ (s : Shared) (H : Hp) (ce : Env) (fp : List Addr), (∃ cl C, ce = compEnvC scope cl C X.env) → PE (X.blk s H scope ce fp) elt te) (hs : ∀ x, foldedSetIterable iter X.env x = pure x) (h : tLcI wi g tt te (own.map (·.2)) σ H Q)
    (hq : ∀ D C s' m H', Inv X pins σ H' s' → Q (.ref D) H' → s'.heap.Ns C m → FpOk X pins H' C → compPost (model X.prog X.w) X.A X.xe use Qf (.ref D) C (.ok .next) s') :
    wpAny (model X.prog X.w) X.A (comprehension (.ListComp elt [⟨tg, iter, ifs, 0⟩] scope pos) scope X.env pos' (newList []) false (eval iter X.env) use) Qf X.xe s := by
  have fr : ∀ y ∈ scope.names, y.2 = .free → ∃ c, X.env.cells.lookup y.1 = some c := fun y hy e => (ok.free y hy e).elim (fun k => I.ok.has _ (.inl k)) fun k => I.ok.has _ (.inr k)
  have names : ∀ y ∈ scope.names, y.2 = .local → scope.names.lookup y.1 = some .local := fun y hy e => by
    rw [ok.uniq y hy, e]
  refine wpAny_comprehension_free (use := use) rfl hs (closure_ok fr) ok.kind names (thn (hi.run pins s σ H _ I h) fun xv s1 h1 => thn h1 fun itv s2 h2 => ?_)
  obtain ⟨it, fp, tn, J, H2, e, I2, T, st, f, q⟩ := h2
  subst e
  refine wpAny_newObj_type (newEnv_comp ?_) (Nat.zero_le _)
  have nD : H2 s2.heap.objs.size = none := I2.hok.fresh (Nat.le_refl _)
  obtain ⟨n, Iv, i0, hstop, hgo⟩ := q _ nD
  obtain ⟨s3, e3⟩ : ∃ s3 : Shared, s3 = { s2 with heap := s2.heap.push { cls := .type "list", data := .seq ([] : List Value).toArray } } := ⟨_, rfl⟩
  rw [← e3]
  have up : ∀ b o, s2.heap.get? b = some o → s3.heap.get? b = some o := fun b o z => by
    rw [e3]
    exact Heap.get?_push_of_some _ z
  have sz : s3.heap.objs.size = s2.heap.objs.size + 1 := by
    rw [e3]
    exact Heap.size_push ..
  have I3 : Inv X pins σ (upd H2 s2.heap.objs.size (.lst [])) s3 := by
    rw [e3]
    exact I2.laid (t' := s2.toks) (fun b o z => Heap.get?_push_of_some _ z) (Nat.le_refl _) ⟨Nat.zero_le _, [], 0, .nil, Heap.get?_push_size _ rfl⟩
  have below : ∀ b ∈ fp, b < s2.heap.objs.size := fun b hb => by
    obtain ⟨o, z, _⟩ := T.obj _ _ st b hb
    exact Heap.lt_size z
  have f3 : Walked X pins (upd H2 s2.heap.objs.size (.lst [])) fp := fun b hb => by
    refine ⟨?_, (f b hb).2⟩
    rw [upd_ne (Nat.ne_of_lt (below b hb))]
    exact (f b hb).1
  have I4 := block_start (own := own) (fp := fp) I3 ok hN fun b hb => ⟨f3 b hb, by rw [sz]; exact Nat.lt_succ_of_lt (below b hb)⟩
  have nC : ∀ {σ' : L2.St} {H' : Hp} {s' : Shared} {ce : Env}, ce.locals = s3.heap.objs.size → Inv (X.blk s3 (upd H2 s2.heap.objs.size (.lst [])) scope ce fp) [] σ' H' s' → H' s3.heap.objs.size = none ∧ ∃ m, s'.heap.Ns s3.heap.objs.size m := fun {σ' H' s' ce} ec J => by
    have z : H' ce.locals = none := J.free
    obtain ⟨m, hn, _⟩ := J.loc
    have hn : s'.heap.Ns ce.locals m := hn
    rw [ec] at z hn
    exact ⟨z, m, hn⟩
  have pt := ht pins σ s3 _ s3.heap.objs.size (cellsFrom (s3.heap.objs.size + 1) scope.names (cloFrom X.env.cells scope.names [])) fp I3 f3
  have pg := hg s3 (upd H2 s2.heap.objs.size (.lst [])) _ fp ⟨cellsFrom (s3.heap.objs.size + 1) scope.names (cloFrom X.env.cells scope.names []), s3.heap.objs.size, rfl⟩
  have pe := he s3 (upd H2 s2.heap.objs.size (.lst [])) _ fp ⟨cellsFrom (s3.heap.objs.size + 1) scope.names (cloFrom X.env.cells scope.names []), s3.heap.objs.size, rfl⟩
  have st4 : tn 0 (pushCells (s3.heap.push { cls := .type "dict", data := .dict #[] }) scope.names) := T.keep _ _ _ st fun b _ o z => pushCells_keeps _ _ _ _ (Heap.get?_push_of_some _ (up b o z))
  have lp := loop_all (Y := X.blk s3 (upd H2 s2.heap.objs.size (.lst [])) scope (compEnvC scope (cellsFrom (s3.heap.objs.size + 1) scope.names (cloFrom X.env.cells scope.names [])) s3.heap.objs.size X.env) fp) (iter := iter) (scope := scope) (pos := pos) (D := s2.heap.objs.size) (vs := own.map (·.2)) (n := n) (I := Iv) (R := compPost (model X.prog X.w) X.A X.xe use Qf (.ref s2.heap.objs.size) s3.heap.objs.size) hc rfl T pg pt pe
    (fun {σ' H' s'} J nn b hb => ⟨nn b hb, (J.ok.exf b hb).1, J.ok.exfs b hb, .inl hb, fun x c z => (J.ok.exf b hb).2 x c z, fun p hp => absurd (show p ∈ ([] : List (Addr × Obj)) ++ [] from hp) (by simp)⟩)
    I4 st4 (fun b hb => (f3 b hb).1) i0 hgo (fun H5 i5 => (hstop H5 i5).1) fun s' H' J i5 => by
      obtain ⟨z, m, hn⟩ := nC rfl J
      exact hq _ _ s' m H' (back I3 f3 J) (hstop H' i5).2 hn (I3.fpOk (Nat.le_refl _) z)
  exact codeAny_compStart_list lp (T.self X.A 0 _ _ _ st4 lp)
section
variable {elt tg iter : Expr} {ifs : List Expr} {scope : Scope} {own : List (Str × Nat)} {pos : Pos} {wi : TI} {g : TG} {tt : L2.St → TT} {te : TE}
theorem pe_lcI (hc : X.calm = true) (hN : X.N.Nodup) (hi : PI X tg iter wi) (ok : BlkOk X.N X.env.scope scope own)
    (hg : ∀ (s : Shared) (H : Hp) (ce : Env) (fp : List Addr), (∃ cl C, ce = compEnvC scope cl C X.env) → PG (X.blk s H scope ce fp) tg g)
    (ht : ∀ (pins : List (Addr × Obj)) (σ : L2.St) (s : Shared) (H : Hp) (C : Addr) (cl : List (Str × Addr)) (fp : List Addr), Inv X pins σ H s → Walked X pins H fp → PTs (X.blk s H scope (compEnvC scope cl C X.env) fp) ifs (tt σ))
    (he : ∀ (s : Shared) (H : Hp) (ce : Env) (fp : List Addr), (∃ cl C, ce = compEnvC scope cl C X.env) → PE (X.blk s H scope ce fp) elt te)
    (hs : ∀ x, foldedSetIterable iter X.env x = pure x := by intro _; rfl) : PE X (.ListComp elt [⟨tg, iter, ifs, 0⟩] scope pos) (tLcI wi g tt te (own.map (·.2))) := by
  refine ⟨fun pins s σ H Q I h => ?_⟩
  rw [eval_ListComp]
  refine lcI hc hN I hi ok hg ht he hs h fun D C s' m H' I' q hn f => ⟨m, hn, fun h'' sb => ?_⟩
  obtain ⟨g0, g1, g2, g3, g4, g5⟩ := f
  exact ⟨.ref D, H', I'.turned (t' := s'.toks) (fun b o hb e => (sb.2 b hb).trans e) g0 g1 g3 g4 g5, rfl, q⟩
/-- name = [..], on one line, the name a local -/
theorem ps_setLcI {i : Nat} {y : Str} {py spos : Pos} (hc : X.calm = true) (hN : X.N.Nodup) (hy : X.N[i]? = some y) (hyl : X.env.scope.names.lookup y = some .local) (hsw : swapsWith (.ListComp elt [⟨tg, iter, ifs, 0⟩] scope pos) (some (.Name y py)) spos.line X.env = pure true) (hi : PI X tg iter wi) (ok : BlkOk X.N X.env.scope scope own)
    (hg : ∀ (s : Shared) (H : Hp) (ce : Env) (fp : List Addr), (∃ cl C, ce = compEnvC scope cl C X.env) → PG (X.blk s H scope ce fp) tg g)
    (ht : ∀ (pins : List (Addr × Obj)) (σ : L2.St) (s : Shared) (H : Hp) (C : Addr) (cl : List (Str × Addr)) (fp : List Addr), Inv X pins σ H s → Walked X pins H fp → PTs (X.blk s H scope (compEnvC scope cl C X.env) fp) ifs (tt σ))
    (he : ∀ (s : Shared) (H : Hp) (ce : Env) (fp : List Addr), (∃ cl C, ce = compEnvC scope cl C X.env) → PE (X.blk s H scope ce fp) elt te)
    (hs : ∀ x, foldedSetIterable iter X.env x = pure x := by intro _; rfl) : PS X (.Assign [.Name y py] (.ListComp elt [⟨tg, iter, ifs, 0⟩] scope pos) spos) (tAsg (tLcI wi g tt te (own.map (·.2))) (gName i)) := by
  refine ⟨fun pins s σ H D I h => ?_⟩
  rw [exec_Assign_Name_used _ _ _ _ hsw]
  have h : tLcI wi g tt te (own.map (·.2)) σ H (fun x H1 => gName i x σ H1 D.nx) := h
  refine wpAny_bind (wpAny_standAt (wpAny_bind ?_))
  refine wpAny_bind (thn (lcI (Qf := fun _ s' => SP X pins D .next s') hc hN I hi ok hg ht he hs h fun L C s' m H' I' q hn f => ?_) fun _ s' z => wpAny_pure (wpAny_pure z))
  obtain ⟨g0, g1, g2, g3, g4, g5⟩ := f
  refine wpAny_assign_Name (store_ok2 (v := V.ref L) I' hN hy (.inl hyl) rfl (fun s2 I2 ⟨a, sb, ha⟩ => ?_) (.inr hyl))
  have ne : C ≠ a := ha.elim (fun z => by rw [z]; exact g1) fun z e => g4 y a z e.symm
  exact ⟨m, hn.sameBut sb ne, fun h3 sb3 => ⟨_, H', I2.turned (t' := s2.toks) (fun b o hb e => (sb3.2 b hb).trans e) g0 g1 g3 g4 g5, q⟩⟩
end
end
end LamD

/-! [f for f in fs if ..], the tests' outcomes known or not -/
namespace Dv
open PySem PySem.Spec L2 LamX LamD
open PyProof.Rows hiding St
section
variable {K : PySem.W.Frag} {T : List (Addr × Str)} {W W2 : Wd K T} {G G2 : Ctx} {ta tb te : TE} {X : Cx} {k : Nat}
theorem t_BR {t : TE} {R : Bool → Prop} (h : E K T t G (fun d => ∃ b, d = .bool b ∧ R b)) : ET K T (tB t) G R := fun W σ H s j Q q => h W σ H s j _ fun v d H1 e1 j1 dv p => by
  obtain ⟨b, rfl, r⟩ := p
  exact ⟨b, dv.bool_inv, q b H1 e1 j1 r⟩
theorem t_notR {t : TT} {R : Bool → Prop} (h : ET K T t G R) : ET K T (tNot t) G (fun b => R (!b)) := fun W σ H s j Q q => h W σ H s j _ fun b H1 e1 j1 p => q _ H1 e1 j1 (by show R (!(!b)); rw [Bool.not_not]; exact p)
/-- none is kept -/
theorem el_lcI0 {K' : PySem.W.Frag} {i j : Nat} {Fs : List (LamG X k)} {o : Ob} {tt : L2.St → TT} (ho : isFs Fs o) (hg : G[i]? = some (some o))
    (hs : ∀ F ∈ Fs, ∀ f l, KpF F f l → ∀ (W : Wd K T) (σ σ2 : L2.St) (H : Hp), Sl W H σ G → Sl W H σ2 ((wipeG G [j]).set j (some (.keep (.ref f) l))) → W.J H → ∀ Q : Bool → Hp → Prop, (∀ H', Ex W H H' → W.J H' → Q false H') → tt σ σ2 H Q) :
    EL K T (tLcI (iList K' (tVar i)) (gName j) tt te [j]) G (· = []) := fun W σ H s j0 Q q => by
  obtain ⟨p, vs, l, rfl, hm, hp⟩ := ho
  obtain ⟨v, h1, h2⟩ := s.at_ i _ hg
  obtain ⟨rfl, hk⟩ := od_keep h2
  obtain ⟨ha, nx, _⟩ := hk _ hm
  refine ⟨.ref p, h1, p, rfl, ⟨vs, SqL.of ha⟩, fun D hD => ?_⟩
  have nD : ¬ W.X D := new_ne j0 hD
  have w := walk_list (K := K') (a := p) (xs := vs)
  have q1 : ∀ {H' : Hp}, Ex W H H' → SqL K' H' p vs := fun {H'} e => SqL.of (e.k _ _ ha (fun _ z => by cases z) nx)
  refine ⟨vs.length, fun i H' => Ex W H H' ∧ W.J H' ∧ H' D = some (.lst []), ⟨.new hD, j_new j0 hD, upd_same⟩, fun H2 ⟨e, j2, hl⟩ => ⟨w.stops H2 (q1 e), q D [] [] H2 ⟨H, .refl H, hD, e⟩ j2 nD hl .nil rfl⟩, fun i H2 hi ⟨e, j2, hl⟩ => ⟨w.goes i H2 hi (q1 e), fun x H3 y => ?_⟩⟩
  obtain ⟨rfl, hx⟩ := w.yields i H2 x H3 hi (q1 e) y
  obtain ⟨F, hF, f, rfl, kf⟩ := paired_mem hp (List.mem_of_getElem? hx)
  have sH : Sl (W.hide D nD []) H3 σ G := (s.to (hide_out (hp := nD) (ys := []) hD) rfl).mono (ex_hide e)
  have kH : Kept (W.hide D nD []) H l := fun p hp => ⟨(hk p hp).1, hide_out hD _ _ (hk p hp).1 (hk p hp).2.1, (hk p hp).2.2⟩
  refine ⟨(wipe_same (by simp) fun k hk => List.getElem?_set_ne fun z => hk (by rw [← z]; exact List.mem_singleton.mpr rfl)).trans wipe_wipe, ?_⟩
  exact hs F hF f l kf (W.hide D nD []) σ _ H3 sH ((sH.wipe [j]).set (.keep (kH.mono (ex_hide e)))) ⟨j2, hl⟩ _ fun H5 e5 j5 => iteF ⟨hide_ex hD ((ex_hide e).trans e5), j5.1, j5.2⟩
/-- some are kept, nothing is told of which -/
theorem eo_lcAny {K' : PySem.W.Frag} {i j : Nat} {Fs : List (LamG X k)} {o : Ob} {tt : L2.St → TT} (ho : isFs Fs o) (hg : G[i]? = some (some o)) (hj : ∀ o : Ob, ((wipeG G [j]).set j (some o))[j]? = some (some o)) (hn : Fs.length ≤ 1000)
    (hs : ∀ F ∈ Fs, ∀ f l, KpF F f l → ∀ (W : Wd K T) (σ σ2 : L2.St) (H : Hp), Sl W H σ G → Sl W H σ2 ((wipeG G [j]).set j (some (.keep (.ref f) l))) → W.J H → ∀ Q : Bool → Hp → Prop, (∀ b H', Ex W H H' → W.J H' → Q b H') → tt σ σ2 H Q) :
    EO K T (tLcI (iList K' (tVar i)) (gName j) tt (tVar j) [j]) G (fun o => ∃ v, o = .keep v []) := fun W σ H s j0 Q q => by
  obtain ⟨p, vs, l, rfl, hm, hp⟩ := ho
  obtain ⟨v, h1, h2⟩ := s.at_ i _ hg
  obtain ⟨rfl, hk⟩ := od_keep h2
  obtain ⟨ha, nx, _⟩ := hk _ hm
  refine ⟨.ref p, h1, p, rfl, ⟨vs, SqL.of ha⟩, fun D hD => ?_⟩
  have nD : ¬ W.X D := new_ne j0 hD
  have w := walk_list (K := K') (a := p) (xs := vs)
  have lv : vs.length ≤ 1000 := by rw [Paired.length hp]; exact hn
  have q1 : ∀ {H' : Hp}, Ex W H H' → SqL K' H' p vs := fun {H'} e => SqL.of (e.k _ _ ha (fun _ z => by cases z) nx)
  refine ⟨vs.length, fun i H' => ∃ acc, Ex W H H' ∧ W.J H' ∧ H' D = some (.lst acc) ∧ acc.length ≤ i, ⟨[], .new hD, j_new j0 hD, upd_same, Nat.le_refl _⟩, fun H2 ⟨acc, e, j2, hl, _⟩ => ⟨w.stops H2 (q1 e), q (.ref D) (.keep (.ref D) []) H2 e j2 (.keep fun p hp => (List.not_mem_nil hp).elim) ⟨_, rfl⟩⟩, fun i H2 hi ⟨acc, e, j2, hl, hlen⟩ => ⟨w.goes i H2 hi (q1 e), fun x H3 y => ?_⟩⟩
  obtain ⟨rfl, hx⟩ := w.yields i H2 x H3 hi (q1 e) y
  obtain ⟨F, hF, f, rfl, kf⟩ := paired_mem hp (List.mem_of_getElem? hx)
  have sH : Sl (W.hide D nD acc) H3 σ G := (s.to (hide_out (hp := nD) (ys := acc) hD) rfl).mono (ex_hide e)
  have kH : Kept (W.hide D nD acc) H l := fun p hp => ⟨(hk p hp).1, hide_out hD _ _ (hk p hp).1 (hk p hp).2.1, (hk p hp).2.2⟩
  have s2 := (sH.wipe [j]).set (i := j) (v := .ref f) (o := .keep (.ref f) l) (.keep (kH.mono (ex_hide e)))
  refine ⟨(wipe_same (by simp) fun k hk => List.getElem?_set_ne fun z => hk (by rw [← z]; exact List.mem_singleton.mpr rfl)).trans wipe_wipe, ?_⟩
  refine hs F hF f l kf (W.hide D nD acc) σ _ H3 sH s2 ⟨j2, hl⟩ _ fun b H5 e5 j5 => ?_
  cases b with
  | false => exact iteF ⟨acc, hide_ex hD ((ex_hide e).trans e5), j5.1, j5.2, by omega⟩
  | true =>
    refine iteT ?_
    obtain ⟨v, h3, _⟩ := s2.at_ j _ (hj _)
    refine ⟨v, h3, acc, j5.2, Nat.lt_of_le_of_lt (show acc.length ≤ 1000 by omega) (by decide), acc ++ [v], Ex.mut (.refl H) hD (hide_ex hD ((ex_hide e).trans e5)), W.ju j5.1 (.inr (.inl ⟨acc, j5.2⟩)) nD, upd_same, ?_⟩
    rw [List.length_append, List.length_singleton]
    omega
/-- alike(x(f), e), told by data -/
theorem alike_R {Ex' : XK} {te tu : TE} {σ2 : L2.St} {H : Hp} {d : PyData} {P : PyData → Prop} {pre : List Ob → Prop} {post : List Ob → PyData → Prop} {R : Bool → Prop} (s2 : Sl W H σ2 G2) (hw : ∀ Q : VK, (∀ v e H', Ex W H H' → W.J H' → D W H' v e → P e → Q v H') → te σ2 H Q) (hu : E K T tu G2 (· = d)) (hp : ∀ e, P e → pre (dats [e, d]))
    (hF : ∀ e c, P e → post (dats [e, d]) c → ∃ b, c = .bool b ∧ R (!b)) {Q : Bool → Hp → Prop} (q : ∀ b H', Ex W H H' → W.J H' → R b → Q b H') : tNot (tB (tCall (spA K T pre post) [] Ex' (tCons te (tCons tu tNil)))) σ2 H Q := by
  refine hw _ fun v e H1 e1 j1 dv p => hu W σ2 H1 (s2.mono e1) j1 _ fun u e' H2 e2 j2 du p' => ?_
  subst p'
  refine ⟨W, dats [e, e'], j2, .cons (.dat (dv.mono e2)) (.cons (.dat du) .nil), hp e p, fun v3 d3 H3 e3 j3 dv3 hd => ?_⟩
  obtain ⟨b, rfl, r⟩ := hF e d3 p hd
  exact ⟨b, dv3.bool_inv, q _ H3 ((e1.trans e2).trans e3) j3 r⟩
end
end Dv

/-! a method's call with keywords -/
namespace L2
open PySem PySem.Spec
/-- o.m(e, k = v) -/
def tMethN (C : Addr) (m : Str) (n nk : Nat) (sp : Sp) (gV : List V → List V → List V) (E : XK) (ta : TE) (t tk : TA) : TE := fun σ H Q => ta σ H fun x H1 => ∃ a dx fs, x = V.ref a ∧ H1 a = some (HO.ins C dx fs) ∧ List.lookup m fs = none ∧
  t σ H1 fun vs H2 => tk σ H2 fun zs H3 => vs.length = n ∧ zs.length = nk ∧ sp (gV (x :: vs) zs) H3 Q E
theorem pe_methN {X : Cx} {CX : CXT} {k n : Nat} {f C : Addr} {fd : FuncData} {ps ks : List Str} {sp : Sp} {E : XK} {m : Str} {pos apos : Pos} {o e : Expr} {es : List Expr} {kws : List Keyword} {ta : TE} {t tk : TA} {g : List Value → List Value → List Value} {gV : List V → List V → List V} {pl : Sem Bool}
    (ho : PE X o ta) (hc : Cls X.K C) (hg : PySem.W.plainGet X.K C m = true) (hm : Meth X.K C m f) (F : FnOk X.prog X.w X.K X.mg X.base CX k f fd ps sp) (hr : Room k X.A) (hb : KBn X.K fd ps (n + 1) ks g gV) (hp : Passes CX X E) (ha : PA X (e :: es) t) (hk : PK X kws tk)
    (hall : ((backToKw pos (keywordEach kws X.env)).all fun x => x.fst.isSome) = true := by rfl) (hks : List.filterMap (fun x => x.fst) (backToKw pos (keywordEach kws X.env)) = ks := by rfl)
    (he : starEach (e :: es) X.env = (false, eval e X.env) :: starEach es X.env := by rfl)
    (hpl : (((backTo pos (starEach (e :: es) X.env)).any fun x => x.fst) || (backToKw pos (keywordEach kws X.env)).any fun x => x.fst.isNone) = false := by rfl)
    (hev : eval ((o.Attribute m apos).Call (e :: es) kws pos) X.env = (do
      let ov ← eval o X.env
      standAt apos.atName
      let (f, first) ← holding [ov] (getMethod ov m pl)
      callWith pos f first (backTo pos (starEach (e :: es) X.env)) (backToKw pos (keywordEach kws X.env))) := by rfl) :
    PE X ((o.Attribute m apos).Call (e :: es) kws pos) (tMethN C m n ks.length sp gV E ta t tk) := by
  refine ⟨fun pins s σ H Q I h => ?_⟩
  rw [hev]
  refine wpAny_bind (wpAny_mono (ho.run pins s σ H _ I h) (fun xv s1 ⟨v, H1, I1, r, a, dx, fs, ev, hi, hl, h2⟩ => ?_) fun _ _ z => z)
  subst ev
  obtain rfl : xv = Value.ref a := r
  refine wpAny_bind (wpAny_standAt ?_)
  obtain ⟨mA, om, rel, _, _, _⟩ := ins_get I1.hok hi
  have hn : mA m = none := by
    have z := rel m
    rw [hl] at z
    cases hz : mA m with
    | none => rfl
    | some u => rw [hz] at z; exact z.elim
  refine wpAny_bind (wpAny_holding (get_meth I1.kIn om hg hm.at_ hm.fn hn ?_))
  refine PySem.W.callWith_KW (h₀ := X.base) ?_ hm.kp hall (wpAny_mono (ha.run pos pins s1 σ H1 _ I1 h2) (fun us s2 ⟨vs, H2, I2, rv, h3⟩ => ?_) fun _ _ z => z) hpl he
  · exact I1.ok.mod.kin
  refine wpAny_mono (hk.run pos pins s2 σ H2 _ I2 h3) (fun ws s3 ⟨zs, H3, I3, rz, hn1, hn2, h4⟩ => ?_) fun _ _ z => z
  refine ⟨I3.kIn, ?_⟩
  rw [hks]
  have lu : us.length = n := (Vals.length rv).symm.trans hn1
  have lw : ws.length = ks.length := (Vals.length rz).symm.trans hn2
  have bt := hb.to s3 (.ref a :: us) ws I3.kIn (by rw [List.length_cons, lu]) lw
  refine wpAny_call (codeAny_mono (F.run X.A X.stack s3 H3 _ _ _ Q E hr I3.env0 bt (hb.rel (.cons (show RelV (.ref a) (.ref a) from rfl) rv) rz) h4) fun r s4 z => ?_)
  cases r with
  | error e => exact hp pins σ H3 s3 e s4 I3 z
  | ok fl =>
    cases fl with
    | ret u => exact I3.after z
    | next => exact z.elim
    | brk => exact z.elim
    | cont => exact z.elim
end L2

/-! objects with fields -/
namespace Dv
open PySem PySem.Spec L2 LamX LamD
open PyProof.Rows hiding St
section
variable {K : PySem.W.Frag} {T : List (Addr × Str)} {W W2 : Wd K T}
/-! data by a list of objects -/
mutual
inductive DL (l : List (Addr × HO)) : V → PyData → Prop
  | non : DL l .non .none
  | bl (b : Bool) : DL l (.bl b) (.bool b)
  | int (i : Int) : DL l (.int i) (.int i)
  | str (x : Str) : DL l (.str x) (.str x)
  | lst {a : Addr} {xs : List V} {ds : List PyData} : (a, HO.lst xs) ∈ l → DLA l xs ds → DL l (.ref a) (.list ds)
  | tup {a : Addr} {xs : List V} {ds : List PyData} : (a, HO.tup xs) ∈ l → DLA l xs ds → DL l (.ref a) (.tuple ds)
inductive DLA (l : List (Addr × HO)) : List V → List PyData → Prop
  | nil : DLA l [] []
  | cons {v : V} {vs : List V} {d : PyData} {ds : List PyData} : DL l v d → DLA l vs ds → DLA l (v :: vs) (d :: ds)
end
mutual
theorem DL.d {H : Hp} {l : List (Addr × HO)} (k : Kept W H l) : ∀ {v : V} {d : PyData}, DL l v d → D W H v d
  | _, _, .non => .non
  | _, _, .bl b => .bl b
  | _, _, .int i => .int i
  | _, _, .str x => .str x
  | _, _, .lst m a => .lst (k _ m).2.1 (k _ m).1 (DLA.d k a)
  | _, _, .tup m a => .tup (k _ m).2.1 (k _ m).1 (DLA.d k a)
theorem DLA.d {H : Hp} {l : List (Addr × HO)} (k : Kept W H l) : ∀ {vs : List V} {ds : List PyData}, DLA l vs ds → DAll W H vs ds
  | _, _, .nil => .nil
  | _, _, .cons a b => .cons (DL.d k a) (DLA.d k b)
end
mutual
theorem DL.mono {l l' : List (Addr × HO)} (s : ∀ q ∈ l, q ∈ l') : ∀ {v : V} {d : PyData}, DL l v d → DL l' v d
  | _, _, .non => .non
  | _, _, .bl b => .bl b
  | _, _, .int i => .int i
  | _, _, .str x => .str x
  | _, _, .lst m a => .lst (s _ m) (DLA.mono s a)
  | _, _, .tup m a => .tup (s _ m) (DLA.mono s a)
theorem DLA.mono {l l' : List (Addr × HO)} (s : ∀ q ∈ l, q ∈ l') : ∀ {vs : List V} {ds : List PyData}, DLA l vs ds → DLA l' vs ds
  | _, _, .nil => .nil
  | _, _, .cons a b => .cons (DL.mono s a) (DLA.mono s b)
end
theorem kept_one {H : Hp} {a : Addr} {o : HO} {l : List (Addr × HO)} (k : Kept W H l) (h : H a = some o) (n : ¬ W.X a) (t : ∀ ps, o ≠ .tbl ps) : Kept W H ((a, o) :: l) := fun p hp => by
  rcases List.mem_cons.mp hp with rfl | hp
  · exact ⟨h, n, t⟩
  · exact k p hp
mutual
theorem D.l {H : Hp} : ∀ {v : V} {d : PyData}, D W H v d → ∃ l, Kept W H l ∧ DL l v d
  | _, _, .non => ⟨[], fun p hp => (List.not_mem_nil hp).elim, .non⟩
  | _, _, .bl b => ⟨[], fun p hp => (List.not_mem_nil hp).elim, .bl b⟩
  | _, _, .int i => ⟨[], fun p hp => (List.not_mem_nil hp).elim, .int i⟩
  | _, _, .str x => ⟨[], fun p hp => (List.not_mem_nil hp).elim, .str x⟩
  | _, _, .lst r h a => let ⟨l, k, d⟩ := DAll.l a; ⟨_ :: l, kept_one k h r (fun ps z => by cases z), .lst (List.mem_cons_self ..) (DLA.mono (fun q hq => List.mem_cons_of_mem _ hq) d)⟩
  | _, _, .tup r h a => let ⟨l, k, d⟩ := DAll.l a; ⟨_ :: l, kept_one k h r (fun ps z => by cases z), .tup (List.mem_cons_self ..) (DLA.mono (fun q hq => List.mem_cons_of_mem _ hq) d)⟩
theorem DAll.l {H : Hp} : ∀ {vs : List V} {ds : List PyData}, DAll W H vs ds → ∃ l, Kept W H l ∧ DLA l vs ds
  | _, _, .nil => ⟨[], fun p hp => (List.not_mem_nil hp).elim, .nil⟩
  | _, _, .cons a b => let ⟨l, k, d⟩ := D.l a; let ⟨l2, k2, d2⟩ := DAll.l b; ⟨l ++ l2, k.app k2, .cons (DL.mono (fun q hq => List.mem_append_left _ hq) d) (DLA.mono (fun q hq => List.mem_append_right _ hq) d2)⟩
end
/-! fields -/
abbrev Flds := List (Str × PyData)
def FL (l : List (Addr × HO)) (p : Str × V) (q : Str × PyData) : Prop := p.1 = q.1 ∧ DL l p.2 q.2
def FD (W : Wd K T) (H : Hp) (p : Str × V) (q : Str × PyData) : Prop := p.1 = q.1 ∧ D W H p.2 q.2
/-- an object of the class C, its fields data -/
def isObj (C : Addr) (fds : Flds) (o : Ob) : Prop := ∃ x dx fs l, o = .keep (.ref x) l ∧ (x, HO.ins C dx fs) ∈ l ∧ Paired (FL l) fs fds
theorem fl_look {l : List (Addr × HO)} {f : Str} : ∀ {fs : List (Str × V)} {fds : Flds}, Paired (FL l) fs fds → ∀ {d : PyData}, fds.lookup f = some d → ∃ v, fs.lookup f = some v ∧ DL l v d
  | _, _, .nil, d, h => by cases h
  | _, _, .cons (a := (g, u)) (b := (g', e)) ⟨e1, e2⟩ t, d, h => by
    have e1 : g = g' := e1
    subst e1
    rw [List.lookup_cons] at h ⊢
    cases hb : f == g with
    | true =>
      rw [hb] at h
      cases h
      exact ⟨u, rfl, e2⟩
    | false =>
      rw [hb] at h
      exact fl_look t h
theorem fl_none {l : List (Addr × HO)} {f : Str} : ∀ {fs : List (Str × V)} {fds : Flds}, Paired (FL l) fs fds → fds.lookup f = none → fs.lookup f = none
  | _, _, .nil, h => rfl
  | _, _, .cons (a := (g, u)) (b := (g', e)) ⟨e1, e2⟩ t, h => by
    have e1 : g = g' := e1
    subst e1
    rw [List.lookup_cons] at h ⊢
    cases hb : f == g with
    | true =>
      rw [hb] at h
      cases h
    | false =>
      rw [hb] at h
      exact fl_none t h
theorem fd_look {H : Hp} {f : Str} : ∀ {fs : List (Str × V)} {fds : Flds}, Paired (FD W H) fs fds → ∀ {d : PyData}, fds.lookup f = some d → ∃ v, fs.lookup f = some v ∧ D W H v d
  | _, _, .nil, d, h => by cases h
  | _, _, .cons (a := (g, u)) (b := (g', e)) ⟨e1, e2⟩ t, d, h => by
    have e1 : g = g' := e1
    subst e1
    rw [List.lookup_cons] at h ⊢
    cases hb : f == g with
    | true =>
      rw [hb] at h
      cases h
      exact ⟨u, rfl, e2⟩
    | false =>
      rw [hb] at h
      exact fd_look t h
theorem fd_l {H : Hp} : ∀ {fs : List (Str × V)} {fds : Flds}, Paired (FD W H) fs fds → ∃ l, Kept W H l ∧ Paired (FL l) fs fds
  | _, _, .nil => ⟨[], fun p hp => (List.not_mem_nil hp).elim, .nil⟩
  | _, _, .cons ⟨e1, e2⟩ t => by
    obtain ⟨l, k, d⟩ := e2.l
    obtain ⟨l2, k2, p⟩ := fd_l t
    exact ⟨l ++ l2, k.app k2, .cons ⟨e1, DL.mono (fun q hq => List.mem_append_left _ hq) d⟩ (paired_mono (fun a b ⟨h1, h2⟩ => ⟨h1, DL.mono (fun q hq => List.mem_append_right _ hq) h2⟩) p)⟩
def putD (f : Str) (d : PyData) : Flds → Flds
  | [] => [(f, d)]
  | (g, e) :: r => if g = f then (g, d) :: r else (g, e) :: putD f d r
theorem fd_put {H : Hp} {f : Str} {v : V} {d : PyData} (h : D W H v d) : ∀ {fs : List (Str × V)} {fds : Flds}, Paired (FD W H) fs fds → Paired (FD W H) (putF f v fs) (putD f d fds)
  | _, _, .nil => by
    rw [putF]
    exact .cons ⟨rfl, h⟩ .nil
  | _, _, .cons (a := (g, u)) (b := (g', e)) ⟨e1, e2⟩ t => by
    have e1 : g = g' := e1
    subst e1
    rw [putF]
    show Paired (FD W H) _ (if g = f then (g, d) :: _ else (g, e) :: putD f d _)
    by_cases hg : g = f
    · rw [if_pos hg, if_pos hg]
      exact .cons ⟨rfl, h⟩ t
    · rw [if_neg hg, if_neg hg]
      exact .cons ⟨rfl, e2⟩ (fd_put h t)
/-! W, the object at x taken out -/
def Wd.hideI (W : Wd K T) (x : Addr) (hx : ¬ W.X x) (C dx : Addr) (fs : List (Str × V)) : Wd K T where
  r := W.r
  X := fun a => W.X a ∨ a = x
  J := fun H => W.J H ∧ H x = some (.ins C dx fs)
  ju := fun {H q o} j h n => ⟨W.ju j.1 h fun z => n (.inl z), by
    have e : x ≠ q := fun z => n (.inr z.symm)
    rw [upd_ne e]
    exact j.2⟩
  jx := fun {H a} j z => by
    rcases z with z | rfl
    · exact W.jx j.1 z
    · rw [j.2]
      simp
  xc := fun {H a q} j z => by
    rcases z with z | rfl
    · exact W.xc j.1 z
    · rw [j.2]
      intro z
      have z := Option.some.inj z
      unfold LamX.CodeO at z
      cases z
  jt := fun {H H1} j e t => ⟨W.jt j.1 e t, e _ _ j.2 fun _ w => by cases w⟩
  jT := fun {H} j => W.jT j.1
  rx := fun {a} e => .inl (W.rx e)
  row := fun {H a} j e => W.row j.1 e
  jw := fun {H a sc i c m i' c' m'} j e h h1 h2 h3 => ⟨W.jw j.1 e h h1 h2 h3, by
    have n : x ≠ a := fun z => hx (by rw [z]; exact W.rx e)
    rw [upd_ne n]
    exact j.2⟩
section
variable {x C dx : Addr} {hx : ¬ W.X x} {fs fs' : List (Str × V)} {H H' H1 : Hp}
theorem hideI_out (n : H x = none) : ∀ a o, H a = some o → ¬ W.X a → ¬ (W.hideI x hx C dx fs).X a := fun a o e h z => by
  rcases z with z | rfl
  · exact h z
  · rw [n] at e
    cases e
theorem hideI_ex (n : H1 x = none) (e : Ex (W.hideI x hx C dx fs) H1 H') : Ex W H1 H' := ⟨fun a o h t z => e.k a o h t (hideI_out (hx := hx) (C := C) (dx := dx) (fs := fs) n a o h z)⟩
theorem ex_hideI (e : Ex W H H') : Ex (W.hideI x hx C dx fs) H H' := ⟨fun a o h t z => e.k a o h t fun y => z (.inl y)⟩
theorem kept_hideI {l : List (Addr × HO)} (h : Kept (W.hideI x hx C dx fs) H l) : Kept W H l := fun p hp => ⟨(h p hp).1, fun z => (h p hp).2.1 (.inl z), (h p hp).2.2⟩
/-- the object is done -/
theorem hideI_obj {fds : Flds} (h : H x = some (.ins C dx fs)) (f : Paired (FD (W.hideI x hx C dx fs) H) fs fds) : ∃ o, OD W H (.ref x) o ∧ isObj C fds o := by
  obtain ⟨l, k, p⟩ := fd_l f
  exact ⟨.keep (.ref x) ((x, .ins C dx fs) :: l), .keep (kept_one (kept_hideI k) h hx fun ps z => by cases z), x, dx, fs, _, rfl, List.mem_cons_self .., paired_mono (fun a b ⟨h1, h2⟩ => ⟨h1, DL.mono (fun q hq => List.mem_cons_of_mem _ hq) h2⟩) p⟩
end
/-- the statement makes of the object at x, whose fields fds tells, one that fds' tells -/
def SO (W : Wd K T) (x : Addr) (hx : ¬ W.X x) (C dx : Addr) (t : TS) (G : Ctx) (fds fds' : Flds) : Prop := ∀ (fs : List (Str × V)) (D' : Ends) (σ : L2.St) (H : Hp), Sl (W.hideI x hx C dx fs) H σ G → (W.hideI x hx C dx fs).J H → Paired (FD (W.hideI x hx C dx fs) H) fs fds →
  (∀ fs' H', Ex (W.hideI x hx C dx fs) H H' → (W.hideI x hx C dx fs').J H' → Paired (FD (W.hideI x hx C dx fs') H') fs' fds' → D'.nx σ H') → t D' σ H
variable {x C dx : Addr} {hx : ¬ W.X x} {G : Ctx} {t u : TS}
theorem so_seq {f1 f2 f3 : Flds} (h : SO W x hx C dx t G f1 f2) (h' : SO W x hx C dx u G f2 f3) : SO W x hx C dx (tSeq t u) G f1 f3 := fun fs D' σ H s j p q =>
  h fs { D' with nx := u D' } σ H s j p fun fs1 H1 e1 j1 p1 => h' fs1 D' σ H1 (Sl.to (W := W.hideI x hx C dx fs) (W2 := W.hideI x hx C dx fs1) (fun _ _ _ n => n) rfl (s.mono e1)) j1 p1 fun fs2 H2 e2 => q fs2 H2 (e1.trans ⟨e2.k⟩)
theorem paired_fd {H H' : Hp} {fs : List (Str × V)} {fds : Flds} (e : Ex W H H') (h : Paired (FD W H) fs fds) : Paired (FD W H') fs fds := paired_mono (fun _ _ ⟨h1, h2⟩ => ⟨h1, h2.mono e⟩) h
theorem so_fld {K' : PySem.W.Frag} {tv : TE} {i : Nat} {f : Str} {d : PyData} {fds : Flds} {l : List (Addr × HO)} (hg : G[i]? = some (some (.keep (.ref x) l))) (hv : E K T tv G (· = d)) (hc : Cls K' C) (hn : NoAttr K' C f) (hl : fds.length < 1000) : SO W x hx C dx (sFld K' (tVar i) tv f) G fds (putD f d fds) := fun fs D' σ H s j p q =>
  hv (W.hideI x hx C dx fs) σ H s j _ fun v e H1 e1 j1 dv ev => by
    subst ev
    obtain ⟨w, h1, h2⟩ := s.at_ i _ hg
    obtain ⟨rfl, _⟩ := od_keep h2
    have p1 := paired_fd e1 p
    refine ⟨.ref x, h1, x, C, dx, fs, rfl, j1.2, hc, hn, by rw [Paired.length p]; exact hl, ?_⟩
    have eo : Ex (W.hideI x hx C dx fs) H1 (upd H1 x (.ins C dx (putF f v fs))) := Ex.out (Ex.refl _) (show (W.hideI x hx C dx fs).X x from Or.inr rfl)
    refine q (putF f v fs) _ (e1.trans eo) ⟨W.ju j1.1 (.inr (.inr (.inr ⟨_, _, _, j1.2⟩))) hx, upd_same⟩ ?_
    exact fd_put (W := W.hideI x hx C dx (putF f v fs)) (D.to (W := W.hideI x hx C dx fs) (W2 := W.hideI x hx C dx (putF f v fs)) (fun _ _ _ n => n) (dv.mono eo)) (paired_mono (fun _ _ ⟨a, b⟩ => ⟨a, D.to (W := W.hideI x hx C dx fs) (W2 := W.hideI x hx C dx (putF f v fs)) (fun _ _ _ n => n) b⟩) (paired_fd eo p1))
/-! an object's fields, methods -/
theorem e_fldK {K' : PySem.W.Frag} {i : Nat} {f : Str} {d : PyData} {fds : Flds} {o : Ob} (ho : isObj C fds o) (hg : G[i]? = some (some o)) (hc : Cls K' C) (hn : NoAttr K' C f) (hf : fds.lookup f = some d) : E K T (tFld K' (tVar i) f) G (· = d) := fun W σ H s j Q q => by
  obtain ⟨x, dx, fs, l, rfl, m, p⟩ := ho
  obtain ⟨w, h1, h2⟩ := s.at_ i _ hg
  obtain ⟨rfl, k⟩ := od_keep h2
  obtain ⟨v, hv, dv⟩ := fl_look p hf
  exact ⟨.ref x, h1, x, C, dx, fs, v, rfl, (k _ m).1, hc, hn, hv, q v d H (.refl H) j (dv.d k) rfl⟩
/-- a method that changes nothing: whatever the fields are -/
def spM (K : PySem.W.Frag) (T : List (Addr × Str)) (C : Addr) (ok : Flds → Prop) (g : Flds → PyData) : Sp := fun vs H Q E => ∃ fds, ok fds ∧ spA K T (fun os => ∃ o, os = [o] ∧ isObj C fds o) (fun _ d => d = g fds) vs H Q E
theorem fn_ex {P : Program} {w : World} {mg : Str → Option Value} {base : Heap} {CX : CXT} {k : Nat} {f : Addr} {fd : FuncData} {ps : List Str} {α : Type} {p : α → Prop} {sp : α → Sp} (h : ∀ a, p a → FnOk P w K mg base CX k f fd ps (sp a)) : FnOk P w K mg base CX k f fd ps (fun vs H Q E => ∃ a, p a ∧ sp a vs H Q E) :=
  ⟨fun vs H Q E ⟨a, pa, z⟩ => (h a pa).len vs H Q E z, fun A outer s H args us vs Q E hr e0 bt rv ⟨a, pa, z⟩ => (h a pa).run A outer s H args us vs Q E hr e0 bt rv z⟩
/-- o.m() -/
theorem e_meth0 {i : Nat} {m : Str} {fds : Flds} {o : Ob} {ok : Flds → Prop} {g : Flds → PyData} {Ex' : XK} (ho : isObj C fds o) (hg : G[i]? = some (some o)) (hok : ok fds) (hl : fds.lookup m = none) : E K T (tMeth C m (spM K T C ok g) [] Ex' (tVar i) tNil) G (· = g fds) := fun W σ H s j Q q => by
  have ho' := ho
  obtain ⟨x, dx, fs, l, rfl, mm, p⟩ := ho
  obtain ⟨w, h1, h2⟩ := s.at_ i _ hg
  have h2' := h2
  obtain ⟨rfl, k⟩ := od_keep h2
  exact ⟨.ref x, h1, x, dx, fs, rfl, (k _ mm).1, fl_none p hl, fds, hok, W, [_], j, .cons h2' .nil, ⟨_, rfl, ho'⟩, fun v d H' e' j' dv ed => q v d H' e' j' dv ed⟩
end
end Dv

/-! a def that lets out exceptions, and whose answer is a new list -/
namespace Dv
open PySem PySem.Spec L2
open PyProof.Rows hiding St
section
variable {K : PySem.W.Frag} {T : List (Addr × Str)} {G : Ctx} {P' : Program} {w : World} {mg : Str → Option Value} {base : Heap}
def spXL (K : PySem.W.Frag) (T : List (Addr × Str)) (pre : List Ob → Prop) (post : List Ob → List PyData → Prop) (exc : List Ob → Xd → Prop) : Sp := fun vs H Q E => ∃ (W : Wd K T) (os : List Ob), W.J H ∧ Paired (OD W H) vs os ∧ pre os ∧ (∀ p xs ds H', Fr W H p H' → W.J H' → ¬ W.X p → H' p = some (.lst xs) → DAll W H' xs ds → post os ds → Q (.ref p) H') ∧ XOk W H E (exc os)
theorem ok_defXL {x qual : Str} {st : Stmt} {f : Addr} {fd : FuncData} {N ps : List Str} {k : Nat} {pre : List Ob → Prop} {post : List Ob → List PyData → Prop} {exc : List Ob → Xd → Prop} (Fn : Fun K x qual st f fd) (Sc : FnScope N ps (defScope st)) (hl : ∀ os, pre os → os.length = ps.length)
    (hbody : ∀ (cdv : Value) (A : Around) (outer : List Env) (s : Shared) (H : Hp) (E' : XK), Room k (A.deeper (envOfC qual (defScope st) s.heap.objs.size f cdv)) →
      ∃ t, PSs (cxOf (L2.CX P' w) P' w K mg base N qual (defScope st) f cdv A outer s H E') (defBody st) t ∧ ∀ os, pre os → SX K T E' t (startG N os) { rl := post os } (exc os)) : FnOk P' w K mg base (L2.CX P' w) (k + 1) f fd ps (spXL K T pre post exc) := by
  refine Fn.okX Sc (fun vs H Q E' ⟨W, os, j, dv, hp, _⟩ => (Paired.length dv).trans (hl os hp)) fun cdv A outer s H vs Q E' hr ⟨W, os, j, dv, hp, q, xo⟩ => ?_
  obtain ⟨t, ht, hs⟩ := hbody cdv A outer s H E' hr
  exact ⟨t, ht, hs os hp W _ _ H (start_sl dv) j ⟨fun _ _ _ _ _ _ f => f.elim, fun _ _ _ _ _ _ f => f.elim, fun p xs ds H' f j' n h al z => q p xs ds H' f j' n h al z, fun _ _ _ _ _ _ f => f.elim, fun _ _ _ _ _ _ f => f.elim⟩ xo⟩
/-- where nothing is let out -/
theorem el_callXL {tr : TA} {os : List Ob} {P : List PyData → Prop} {pre : List Ob → Prop} {post : List Ob → List PyData → Prop} {exc : List Ob → Xd → Prop} (h : EA K T tr G (· = os)) (hp : pre os) (hk : ∀ ds, post os ds → P ds) (hx : ∀ x, exc os x → False) : EL K T (tCall (spXL K T pre post exc) [] E0 tr) G P := fun W σ H s j Q q => h W σ H s j _ fun vs os' H1 e1 j1 dv p => by
  subst p
  exact ⟨W, _, j1, by rw [List.append_nil]; exact dv, hp, fun p xs ds H2 f2 j2 n h2 al z => q p xs ds H2 (f2.pre e1) j2 n h2 al (hk ds z), fun c d x H' _ _ _ f => (hx x f).elim⟩
theorem ex_callXL {Ech : XK} {Xs : Xd → Prop} {tr : TA} {os : List Ob} {P : PyData → Prop} {pre : List Ob → Prop} {post : List Ob → List PyData → Prop} {exc : List Ob → Xd → Prop} (h : EA K T tr G (· = os)) (hp : pre os) (hk : ∀ ds, post os ds → P (.list ds)) (hx : ∀ x, exc os x → Xs x) : EX K T Ech (tCall (spXL K T pre post exc) [] Ech tr) G P Xs := fun W σ H s j xo Q q => h W σ H s j _ fun vs os' H1 e1 j1 dv p => by
  subst p
  exact ⟨W, _, j1, by rw [List.append_nil]; exact dv, hp, fun p xs ds H2 f2 j2 n h2 al z => q _ (.list ds) H2 (e1.trans f2.ex) j2 (.lst n h2 al) (hk ds z), (xo.mono e1).imp hx⟩
theorem e_varK {i : Nat} {v : V} {l : List (Addr × HO)} {d : PyData} (hg : G[i]? = some (some (.keep v l))) (h : DL l v d) : E K T (tVar i) G (· = d) := fun W σ H s j Q q => by
  obtain ⟨w, h1, h2⟩ := s.at_ i _ hg
  obtain ⟨rfl, k⟩ := od_keep h2
  exact ⟨w, h1, q w d H (.refl H) j (h.d k) rfl⟩
theorem sl_free {W : Wd K T} {H : Hp} {σ : L2.St} : Sl W H σ (List.replicate σ.length none) := ⟨by rw [List.length_replicate], fun i o e => by
  rw [List.getElem?_replicate] at e
  split at e <;> cases e⟩
/-- x = [f(..), g(..)], two new lists; a test of it; x[0].append(e), x[1].append(e') -/
theorem s_two {i : Nat} {t1 t2 te te' : TE} {tt : TT} {tx : TS} {F : EndG} {l1 l2 : List PyData} {P P2 : PyData → Prop} (h1 : EL K T t1 G (· = l1)) (h2 : EL K T t2 G (· = l2)) (hg : ∀ o : Ob, (G.set i (some o))[i]? = some (some o))
    (ht : ∀ o, (∃ v l, o = .keep v l ∧ DL l v (.list [.list l1, .list l2])) → ET K T tt (G.set i (some o)) (· = false)) (he : ∀ G, E K T te G P) (he' : ∀ G, E K T te' G P2) (hl : l1.length ≤ 1000 ∧ l2.length ≤ 1000) (hn : F.nx (G.set i none)) :
    S K T (tSeq (tAsg (tLst (tCons t1 (tCons t2 tNil))) (gName i)) (tSeq (tIfS tt tx tNext) (tSeq (tDrop (tBM K "list" rAppend (tOp (rIxL K) (tVar i) (tC (.int 0))) (tCons te tNil))) (tDrop (tBM K "list" rAppend (tOp (rIxL K) (tVar i) (tC (.int 1))) (tCons te' tNil)))))) G F := fun W D' σ H s j ok =>
  h1 W σ H s j _ fun p1 xs1 d1 H1 f1 j1 n1 q1 a1 ed1 => h2 W σ H1 (s.mono f1.ex) j1 _ fun p2 xs2 d2 H2 f2 j2 n2 q2 a2 ed2 => by
    subst ed1 ed2
    refine ⟨show 2 ≤ sizeLine by decide, fun L hL => ?_⟩
    have e2 := f2.ex
    have q1' : H2 p1 = some (.lst xs1) := e2.k _ _ q1 (fun _ z => by cases z) n1
    have ne12 : p1 ≠ p2 := by
      obtain ⟨Hm, em, nm, _⟩ := f2
      exact ne_of_none (em.k _ _ q1 (fun _ z => by cases z) n1) nm
    have neL1 : p1 ≠ L := ne_of_none q1' hL
    have neL2 : p2 ≠ L := ne_of_none q2 hL
    have nL : ¬ W.X L := new_ne j2 hL
    have eL : Ex W H2 (upd H2 L (.lst [.ref p1, .ref p2])) := .new hL
    have jL : W.J (upd H2 L (.lst [.ref p1, .ref p2])) := j_new j2 hL
    have x1 : xs1.length ≤ 1000 := by rw [a1.length]; exact hl.1
    have x2 : xs2.length ≤ 1000 := by rw [a2.length]; exact hl.2
    obtain ⟨lo1, k1, b1⟩ := (a1.mono e2).l
    obtain ⟨lo2, k2, b2⟩ := a2.l
    have kk : Kept W (upd H2 L (.lst [.ref p1, .ref p2])) ((L, .lst [.ref p1, .ref p2]) :: (p1, .lst xs1) :: (p2, .lst xs2) :: (lo1 ++ lo2)) := kept_one (kept_one (kept_one ((k1.app k2).mono eL) (eL.k _ _ q2 (fun _ z => by cases z) n2) n2 fun _ z => by cases z) (eL.k _ _ q1' (fun _ z => by cases z) n1) n1 fun _ z => by cases z) upd_same nL fun _ z => by cases z
    have dl : DL ((L, HO.lst [.ref p1, .ref p2]) :: (p1, HO.lst xs1) :: (p2, HO.lst xs2) :: (lo1 ++ lo2)) (.ref L) (.list [.list d1, .list d2]) := .lst (List.mem_cons_self ..) (.cons (.lst (List.mem_cons_of_mem _ (List.mem_cons_self ..)) (b1.mono fun q hq => by simp [hq])) (.cons (.lst (List.mem_cons_of_mem _ (List.mem_cons_of_mem _ (List.mem_cons_self ..))) (b2.mono fun q hq => by simp [hq])) .nil))
    have s3 : Sl W (upd H2 L (.lst [.ref p1, .ref p2])) (σ.set i (some (.ref L))) (G.set i (some (.keep (.ref L) ((L, .lst [.ref p1, .ref p2]) :: (p1, .lst xs1) :: (p2, .lst xs2) :: (lo1 ++ lo2))))) := (((s.mono f1.ex).mono e2).mono eL).set (.keep kk)
    refine ht _ ⟨_, _, rfl, dl⟩ W _ _ s3 jL _ fun c H4 e4 j4 ec => ?_
    subst ec
    refine iteF ?_
    have s4 := s3.mono e4
    obtain ⟨v0, hv0, hd0⟩ := s4.at_ i _ (hg _)
    obtain ⟨rfl, k4⟩ := od_keep hd0
    have hL4 := (k4 _ (List.mem_cons_self ..)).1
    have hp1 := (k4 _ (List.mem_cons_of_mem _ (List.mem_cons_self ..))).1
    have hp2 := (k4 _ (List.mem_cons_of_mem _ (List.mem_cons_of_mem _ (List.mem_cons_self ..)))).1
    refine ⟨.ref L, hv0, L, [.ref p1, .ref p2], 0, .ref p1, rfl, rfl, SqL.of hL4, atI_nat (j := 0) (v := V.ref p1) (xs := [V.ref p1, V.ref p2]) rfl, Or.inl ⟨rfl, xs1, SqL.of hp1⟩, ?_⟩
    refine he _ W _ H4 sl_free j4 _ fun y dy H5 e5 j5 _ _ => ?_
    have hp1' := e5.k _ _ hp1 (fun _ z => by cases z) n1
    have hp2' := e5.k _ _ hp2 (fun _ z => by cases z) n2
    have hL5 := e5.k _ _ hL4 (fun _ z => by cases z) nL
    refine ⟨p1, xs1, y, rfl, rfl, hp1', Nat.lt_of_le_of_lt x1 (by decide), ?_⟩
    have j6 : W.J (upd H5 p1 (.lst (xs1 ++ [y]))) := W.ju j5 (.inr (.inl ⟨_, hp1'⟩)) n1
    have hL6 : upd H5 p1 (.lst (xs1 ++ [y])) L = some (.lst [.ref p1, .ref p2]) := by rw [upd_ne (Ne.symm neL1)]; exact hL5
    have hp6 : upd H5 p1 (.lst (xs1 ++ [y])) p2 = some (.lst xs2) := by rw [upd_ne (Ne.symm ne12)]; exact hp2'
    refine ⟨.ref L, hv0, L, [.ref p1, .ref p2], 1, .ref p2, rfl, rfl, SqL.of hL6, atI_nat (j := 1) (v := V.ref p2) (xs := [V.ref p1, V.ref p2]) rfl, Or.inl ⟨rfl, xs2, SqL.of hp6⟩, ?_⟩
    refine he' _ W _ _ sl_free j6 _ fun z dz H7 e7 j7 _ _ => ?_
    have hp7 := e7.k _ _ hp6 (fun _ z => by cases z) n2
    refine ⟨p2, xs2, z, rfl, rfl, hp7, Nat.lt_of_le_of_lt x2 (by decide), ?_⟩
    have eAll : Ex W H (upd H7 p2 (.lst (xs2 ++ [z]))) := ⟨fun a o ha nt nx => by
      obtain ⟨Ha, ea, na, eb⟩ := f1
      obtain ⟨Hc, ec, nc, ed⟩ := f2
      have w1 := ea.k _ _ ha nt nx
      have w2 := eb.k _ _ w1 nt nx
      have w3 := ec.k _ _ w2 nt nx
      have w4 := ed.k _ _ w3 nt nx
      have w5 := eL.k _ _ w4 nt nx
      have w6 := e5.k _ _ (e4.k _ _ w5 nt nx) nt nx
      have w7 : upd H5 p1 (.lst (xs1 ++ [y])) a = some o := by rw [upd_ne (ne_of_none w1 na)]; exact w6
      rw [upd_ne (ne_of_none w3 nc)]
      exact e7.k _ _ w7 nt nx⟩
    have sN : Sl W (upd H7 p2 (.lst (xs2 ++ [z]))) (σ.set i (some (.ref L))) (G.set i none) := by
      have q0 := (s.mono eAll).set (i := i) (v := .ref L) (o := .keep (.ref L) []) (.keep fun p hp => (List.not_mem_nil hp).elim)
      refine q0.weak (by simp) fun k o e => ?_
      by_cases hk : i = k
      · subst hk
        by_cases hlt : i < G.length
        · rw [List.getElem?_set_self hlt] at e
          cases e
        · rw [List.getElem?_eq_none (by rw [List.length_set]; omega)] at e
          cases e
      · rw [List.getElem?_set_ne hk] at e ⊢
        exact e
    exact ok.nx _ _ _ eAll (W.ju j7 (.inr (.inl ⟨_, hp7⟩)) n2) sN hn
end
end Dv

/-! tuple * 1, tuple * 0 -/
namespace L2
open PySem PySem.Spec PyProof.Rows
theorem tuple_mul1 (l : Addr) (items : Array Value) (n : Nat) (dd : Option Addr) (sl : Array (Option Value)) (u : Tok) : Meets (Builtin.«tuple.__mul__» { pos := [Value.ref l, Value.int 1 u] }) fun _ R s => s.heap.get? l = some { cls := .type "tuple", dict := dd, data := .seq items n, slots := sl } ∧ R (.ok (.ret (.ref l))) s := by
  intro prog w A R s ⟨h, r⟩
  refine wpAny_bind ?_
  have e : asIndex (Value.int 1 u) = pure 1 := rfl
  rw [e]
  refine wpAny_pure ?_
  dsimp only
  rw [if_neg (by decide)]
  refine wpAny_bind (wpAny_tupleItemsOf h rfl ?_)
  rw [if_pos (by simp)]
  refine wpAny_bind ?_
  unfold Builtin.Tuple.tupleIsExact
  refine wpAny_bind ?_
  refine wpAny_typeOf (T := "tuple") ?_ ?_
  · exact ⟨_, h, rfl⟩
  refine wpAny_pure ?_
  rw [if_pos (by decide)]
  refine wpAny_bind (wpAny_rule ?_)
  exact wpAny_pure r
theorem tuple_mul0 (l : Addr) (items : Array Value) (n : Nat) (dd : Option Addr) (sl : Array (Option Value)) (u : Tok) (h0 : items.isEmpty = false) : Meets (Builtin.«tuple.__mul__» { pos := [Value.ref l, Value.int 0 u] }) fun _ R s => s.heap.get? l = some { cls := .type "tuple", dict := dd, data := .seq items n, slots := sl } ∧ R (.ok (.ret (.ref s.heap.objs.size))) { s with heap := s.heap.push { cls := .type "tuple", data := .seq #[] } } := by
  intro prog w A R s ⟨h, r⟩
  refine wpAny_bind ?_
  have e : asIndex (Value.int 0 u) = pure 0 := rfl
  rw [e]
  refine wpAny_pure ?_
  dsimp only
  rw [if_neg (by decide)]
  refine wpAny_bind (wpAny_tupleItemsOf h rfl ?_)
  rw [if_neg (by rw [h0]; decide), if_pos (by simp)]
  refine wpAny_bind ?_
  unfold Builtin.Tuple.tupleExact
  refine wpAny_newObj_type ?_ (Nat.zero_le _)
  exact wpAny_pure r
/-- t * k, k being 0 or 1 -/
def rRepS (K : PySem.W.Frag) : R2 := fun x y H Q => ∃ l xs, x = .ref l ∧ SqT K H l xs ∧ xs ≠ [] ∧ ((y = .int 1 ∧ Q (.ref l) H) ∨ (y = .int 0 ∧ ∀ p, H p = none → Q (.ref p) (upd H p (.tup []))))
theorem op_repS {X : Cx} : OpR X (binaryOp .Mult) (rRepS X.K) := by
  intro pins s σ H x y v u Q I rx ry h
  obtain ⟨l, xs, rfl, hs, hne, hq⟩ := h
  obtain rfl : v = Value.ref l := rx
  obtain ⟨its, rv, ht, hz⟩ := I.tuple hs
  have ht' := ht
  obtain ⟨o, ho, hc, n, hd⟩ := ht
  have eo : o = { cls := .type "tuple", dict := o.dict, data := .seq its.toArray n, slots := o.slots } := by
    cases o
    simp only at hc hd
    subst hc hd
    rfl
  have hi : its ≠ [] := fun e => hne (by
    subst e
    cases rv
    rfl)
  obtain ⟨z, t, ez, hz2⟩ : ∃ z t, u = Value.int z t ∧ ((z = 1 ∧ Q (.ref l) H) ∨ (z = 0 ∧ ∀ p, H p = none → Q (.ref p) (upd H p (.tup [])))) := by
    rcases hq with ⟨rfl, q⟩ | ⟨rfl, q⟩
    · obtain ⟨t, rfl⟩ := ry
      exact ⟨1, t, rfl, .inl ⟨rfl, q⟩⟩
    · obtain ⟨t, rfl⟩ := ry
      exact ⟨0, t, rfl, .inr ⟨rfl, q⟩⟩
  subst ez
  refine wpAny_binaryOp_repeat_ref (T := "tuple") (U := "int") (id := "tuple.__mul__") (idr := "int.__rmul__") (by decide) ⟨o, ho, hc⟩ (fun _ => rfl) noFill_tuple_mul PySem.F.fills_int_mul PySem.F.slot_int_rmul repeat_tuple (ix := .builtin "int.__index__") PySem.F.slot_int_index.lookup ?_
  refine call_meets (T := "int") (B := Builtin.«int.__rmul__») PySem.F.slot_int_rmul rfl PySem.F.entry_int_rmul (PySem.F.args_int_rmul_2 _ _) (int_rmul_tuple z t l its.toArray n o.dict o.slots) ⟨by rw [← eo]; exact ho, rfl, ⟨o, ho, hc⟩, ?_⟩
  rcases hz2 with ⟨rfl, q⟩ | ⟨rfl, q⟩
  · refine call_meets (T := "tuple") (B := Builtin.«tuple.__mul__») PySem.F.slot_tuple_mul ⟨o, ho, hc⟩ PySem.F.entry_tuple_mul (PySem.F.args_tuple_mul_2 _ _) (tuple_mul1 l its.toArray n o.dict o.slots t) ⟨by rw [← eo]; exact ho, ?_⟩
    exact ⟨.ref l, H, I, rfl, q⟩
  · refine call_meets (T := "tuple") (B := Builtin.«tuple.__mul__») PySem.F.slot_tuple_mul ⟨o, ho, hc⟩ PySem.F.entry_tuple_mul (PySem.F.args_tuple_mul_2 _ _) (tuple_mul0 l its.toArray n o.dict o.slots t (by
      cases its with
      | nil => exact absurd rfl hi
      | cons a r => rfl)) ⟨by rw [← eo]; exact ho, ?_⟩
    have hn : H s.heap.objs.size = none := I.hok.fresh (Nat.le_refl _)
    refine ⟨.ref s.heap.objs.size, _, ?_, rfl, q _ hn⟩
    exact I.laid (t' := s.toks) (fun b u z => Heap.get?_push_of_some _ z) (Nat.le_refl _) ⟨Nat.zero_le _, [], .nil, ⟨_, Heap.get?_push_size _ rfl, rfl, _, rfl⟩⟩
/-- t * k, any k -/
def rRepA (K : PySem.W.Frag) : R2 := fun x y H Q => rRepT K x y H Q ∨ rRepS K x y H Q
theorem op_repA {X : Cx} : OpR X (binaryOp .Mult) (rRepA X.K) := fun pins s σ H x y v u Q I rx ry h => h.elim (op_repT pins s σ H x y v u Q I rx ry) (op_repS pins s σ H x y v u Q I rx ry)
end L2
namespace Dv
open PySem PySem.Spec L2
open PyProof.Rows hiding St
section
variable {K : PySem.W.Frag} {T : List (Addr × Str)} {G : Ctx}
theorem all_repA {W : Wd K T} {H : Hp} {xs : List V} {ds : List PyData} (h : DAll W H xs ds) : ∀ k : Nat, DAll W H (List.replicate k xs).flatten (List.replicate k ds).flatten
  | 0 => .nil
  | k + 1 => by
    rw [List.replicate_succ, List.replicate_succ, List.flatten_cons, List.flatten_cons]
    exact h.append (all_repA h k)
theorem e_repA {K' : PySem.W.Frag} {ta tb : TE} {ds : List PyData} {k : Nat} (ha : E K T ta G (· = .tuple ds)) (hb : E K T tb G (· = .int k)) (h0 : ds ≠ []) (hk : k ≤ 1000) (hl : ds.length ≤ 1000) : E K T (tOp (rRepA K') ta tb) G (· = .tuple (List.replicate k ds).flatten) := e_op ha hb fun W H x y d' e' jh dx dy px py Q q => by
  subst px py
  have dx' := dx
  obtain ⟨a, xs, rfl, nx, ha, al⟩ := dx.tup_inv
  cases dy.int_inv
  have hx : xs ≠ [] := fun z => h0 ((al.nil_iff).mp z)
  match k, hk with
  | 0, _ => exact .inr ⟨a, xs, rfl, SqT.of ha, hx, .inr ⟨rfl, fun p hp => q _ _ _ (.new hp) (j_new jh hp) (.tup (new_ne jh hp) upd_same .nil) rfl⟩⟩
  | 1, _ => exact .inr ⟨a, xs, rfl, SqT.of ha, hx, .inl ⟨rfl, q _ _ H (.refl H) jh dx' (by simp)⟩⟩
  | k + 2, hk =>
    refine .inl ⟨a, ((k + 2 : Nat) : Int), xs, rfl, rfl, SqT.of ha, hx, by omega, by omega, by rw [al.length]; exact hl, fun p hp => ?_⟩
    rw [Int.toNat_natCast]
    exact q _ _ _ (.new hp) (j_new jh hp) (.tup (new_ne jh hp) upd_same ((all_repA al (k + 2)).mono (.new hp))) rfl
end
end Dv

/-! desks that change -/
namespace Dv
open PySem PySem.Spec L2 LamX LamD
open PyProof.Rows hiding St
section
variable {K : PySem.W.Frag} {T : List (Addr × Str)} {W W2 : Wd K T}
/-- W, an object and some lists taken out -/
def Wd.part (W : Wd K T) (C x dx : Addr) (fs : List (Str × V)) (l : List (Addr × List V)) (hx : ¬ W.X x) (hl : ∀ q ∈ l, ¬ W.X q.1 ∧ q.1 ≠ x) : Wd K T where
  r := W.r
  X := fun a => W.X a ∨ a = x ∨ ∃ q ∈ l, a = q.1
  J := fun H => W.J H ∧ H x = some (.ins C dx fs) ∧ ∀ q ∈ l, H q.1 = some (.lst q.2)
  ju := fun {H q o} j h n => ⟨W.ju j.1 h fun z => n (.inl z), by
    have e : x ≠ q := fun z => n (.inr (.inl z.symm))
    rw [upd_ne e]
    exact j.2.1, fun u hu => by
    have e : u.1 ≠ q := fun z => n (.inr (.inr ⟨u, hu, z.symm⟩))
    rw [upd_ne e]
    exact j.2.2 u hu⟩
  jx := fun {H a} j z => by
    rcases z with z | rfl | ⟨q, hq, rfl⟩
    · exact W.jx j.1 z
    · rw [j.2.1]; simp
    · rw [j.2.2 q hq]; simp
  xc := fun {H a q} j z => by
    rcases z with z | rfl | ⟨u, hu, rfl⟩
    · exact W.xc j.1 z
    · rw [j.2.1]
      intro z
      have z := Option.some.inj z
      unfold LamX.CodeO at z
      cases z
    · rw [j.2.2 u hu]
      intro z
      have z := Option.some.inj z
      unfold LamX.CodeO at z
      cases z
  jt := fun {H H1} j e t => ⟨W.jt j.1 e t, e _ _ j.2.1 (fun _ w => by cases w), fun q hq => e _ _ (j.2.2 q hq) (fun _ w => by cases w)⟩
  jT := fun {H} j => W.jT j.1
  rx := fun {a} e => .inl (W.rx e)
  row := fun {H a} j e => W.row j.1 e
  jw := fun {H a sc i c m i' c' m'} j e h h1 h2 h3 => ⟨W.jw j.1 e h h1 h2 h3, by
    have n : x ≠ a := fun z => hx (by rw [z]; exact W.rx e)
    rw [upd_ne n]
    exact j.2.1, fun q hq => by
    have n : q.1 ≠ a := fun z => (hl q hq).1 (by rw [z]; exact W.rx e)
    rw [upd_ne n]
    exact j.2.2 q hq⟩
section
variable {C x dx : Addr} {fs fs' : List (Str × V)} {l l' : List (Addr × List V)} {hx : ¬ W.X x} {hl : ∀ q ∈ l, ¬ W.X q.1 ∧ q.1 ≠ x} {hl' : ∀ q ∈ l', ¬ W.X q.1 ∧ q.1 ≠ x} {H H' H1 : Hp}
theorem part_in : ∀ a o, H a = some o → ¬ (W.part C x dx fs l hx hl).X a → ¬ W.X a := fun a o _ n z => n (.inl z)
theorem part_ex (e : Ex W H H') : Ex (W.part C x dx fs l hx hl) H H' := ⟨fun a o h t n => e.k a o h t fun z => n (.inl z)⟩
theorem part_fs : ∀ a o, H a = some o → ¬ (W.part C x dx fs l hx hl).X a → ¬ (W.part C x dx fs' l hx hl).X a := fun a o _ n z => n z
theorem part_ex_fs (e : Ex (W.part C x dx fs l hx hl) H H') : Ex (W.part C x dx fs' l hx hl) H H' := ⟨e.k⟩
/-- a list more is taken out -/
theorem part_more {p : Addr} {ys : List V} {hlp : ∀ q ∈ (p, ys) :: l, ¬ W.X q.1 ∧ q.1 ≠ x} (n : H p = none) : ∀ a o, H a = some o → ¬ (W.part C x dx fs l hx hl).X a → ¬ (W.part C x dx fs' ((p, ys) :: l) hx hlp).X a := fun a o h m z => by
  rcases z with z | z | ⟨q, hq, e⟩
  · exact m (.inl z)
  · exact m (.inr (.inl z))
  · rcases List.mem_cons.mp hq with rfl | hq
    · have e : a = p := e
      rw [e, n] at h
      cases h
    · exact m (.inr (.inr ⟨q, hq, e⟩))
theorem part_ex_more {p : Addr} {ys : List V} {hlp : ∀ q ∈ (p, ys) :: l, ¬ W.X q.1 ∧ q.1 ≠ x} (e : Ex (W.part C x dx fs l hx hl) H H') : Ex (W.part C x dx fs' ((p, ys) :: l) hx hlp) H H' := ⟨fun a o h t n => e.k a o h t fun z => n (by
  rcases z with z | z | ⟨q, hq, e⟩
  · exact .inl z
  · exact .inr (.inl z)
  · exact .inr (.inr ⟨q, List.mem_cons_of_mem _ hq, e⟩))⟩
theorem ex_of_more {p : Addr} {ys : List V} {hlp : ∀ q ∈ (p, ys) :: l, ¬ W.X q.1 ∧ q.1 ≠ x} (n : H p = none) (e : Ex (W.part C x dx fs' ((p, ys) :: l) hx hlp) H H') : Ex (W.part C x dx fs l hx hl) H H' := ⟨fun a o h t m => e.k a o h t (part_more (fs := fs) (hl := hl) n a o h m)⟩
/-- the part's places were new -/
theorem ex_of_part (nx : H x = none) (nl : ∀ q ∈ l, H q.1 = none) (e : Ex (W.part C x dx fs l hx hl) H H') : Ex W H H' := ⟨fun a o h t m => e.k a o h t fun z => by
  rcases z with z | rfl | ⟨q, hq, rfl⟩
  · exact m z
  · rw [nx] at h; cases h
  · rw [nl q hq] at h; cases h⟩
theorem part_out (nx : H x = none) (nl : ∀ q ∈ l, H q.1 = none) : ∀ a o, H a = some o → ¬ W.X a → ¬ (W.part C x dx fs l hx hl).X a := fun a o h m z => by
  rcases z with z | rfl | ⟨q, hq, rfl⟩
  · exact m z
  · rw [nx] at h; cases h
  · rw [nl q hq] at h; cases h
end
/-! a desk -/
structure Dk where
  (n : Nat) (ps ts : List PyData) (m s : Nat) (bk : List PyData) (b : Bool)
def Dk.f (k : Dk) : Flds := [("_things", .int k.n), ("_probes", .list k.ps), ("_told", .list k.ts), ("_most", .int k.m), ("_slips", .int k.s), ("_book", .list k.bk), ("_busy", .bool k.b)]
def dk0 (n : Nat) (ps : List PyData) (m s : Nat) : Dk := ⟨n, ps, ps.map fun _ => .none, m, s, [], false⟩
/-- the class's facts -/
structure DkC (K : PySem.W.Frag) (C : Addr) : Prop where
  cl : Cls K C
  th : NoAttr K C "_things"
  pr : NoAttr K C "_probes"
  tl : NoAttr K C "_told"
  mo : NoAttr K C "_most"
  sl : NoAttr K C "_slips"
  bo : NoAttr K C "_book"
  bu : NoAttr K C "_busy"
/-- its places -/
structure DA where
  (C x dx p1 p2 b : Addr)
/-- as it stands -/
structure DS where
  (k : Dk) (xs1 xs2 ys : List V)
def DS.fs (A : DA) (c : DS) : List (Str × V) := [("_things", .int c.k.n), ("_probes", .ref A.p1), ("_told", .ref A.p2), ("_most", .int c.k.m), ("_slips", .int c.k.s), ("_book", .ref A.b), ("_busy", .bl c.k.b)]
def DS.ls (A : DA) (c : DS) : List (Addr × List V) := [(A.b, c.ys), (A.p2, c.xs2), (A.p1, c.xs1)]
structure DA.Out (A : DA) (W : Wd K T) : Prop where
  x : ¬ W.X A.x
  p1 : ¬ W.X A.p1
  p2 : ¬ W.X A.p2
  b : ¬ W.X A.b
  p1x : A.p1 ≠ A.x
  p2x : A.p2 ≠ A.x
  bx : A.b ≠ A.x
  p12 : A.p1 ≠ A.p2
  p1b : A.p1 ≠ A.b
  p2b : A.p2 ≠ A.b
theorem DA.Out.ls {A : DA} (h : A.Out W) (c : DS) : ∀ q ∈ c.ls A, ¬ W.X q.1 ∧ q.1 ≠ A.x := fun q hq => by
  simp only [DS.ls, List.mem_cons, List.not_mem_nil, or_false] at hq
  rcases hq with rfl | rfl | rfl
  · exact ⟨h.b, h.bx⟩
  · exact ⟨h.p2, h.p2x⟩
  · exact ⟨h.p1, h.p1x⟩
def DA.has (A : DA) (a : Addr) : Prop := a = A.x ∨ a = A.p1 ∨ a = A.p2 ∨ a = A.b
def Wd.desk (W : Wd K T) (A : DA) (h : A.Out W) (c : DS) : Wd K T := W.part A.C A.x A.dx (c.fs A) (c.ls A) h.x (h.ls c)
structure At (A : DA) (c : DS) (H : Hp) : Prop where
  x : H A.x = some (.ins A.C A.dx (c.fs A))
  p1 : H A.p1 = some (.lst c.xs1)
  p2 : H A.p2 = some (.lst c.xs2)
  b : H A.b = some (.lst c.ys)
structure DkH (W : Wd K T) (H : Hp) (c : DS) : Prop where
  a1 : DAll W H c.xs1 c.k.ps
  a2 : DAll W H c.xs2 c.k.ts
  a3 : DAll W H c.ys c.k.bk
section
variable {A : DA} {h : A.Out W} {c c' : DS} {H H' H1 : Hp}
theorem desk_J : (W.desk A h c).J H ↔ W.J H ∧ At A c H := by
  constructor
  · rintro ⟨j, h1, h2⟩
    exact ⟨j, h1, h2 (A.p1, c.xs1) (by simp [DS.ls]), h2 (A.p2, c.xs2) (by simp [DS.ls]), h2 (A.b, c.ys) (by simp [DS.ls])⟩
  · rintro ⟨j, a⟩
    refine ⟨j, a.x, fun q hq => ?_⟩
    simp only [DS.ls, List.mem_cons, List.not_mem_nil, or_false] at hq
    rcases hq with rfl | rfl | rfl
    · exact a.b
    · exact a.p2
    · exact a.p1
theorem desk_X {a : Addr} : (W.desk A h c).X a ↔ W.X a ∨ A.has a := by
  constructor
  · rintro (z | z | ⟨q, hq, z⟩)
    · exact .inl z
    · exact .inr (.inl z)
    · simp only [DS.ls, List.mem_cons, List.not_mem_nil, or_false] at hq
      rcases hq with rfl | rfl | rfl
      · exact .inr (.inr (.inr (.inr z)))
      · exact .inr (.inr (.inr (.inl z)))
      · exact .inr (.inr (.inl z))
  · rintro (z | z | z | z | z)
    · exact .inl z
    · exact .inr (.inl z)
    · exact .inr (.inr ⟨(A.p1, c.xs1), by simp [DS.ls], z⟩)
    · exact .inr (.inr ⟨(A.p2, c.xs2), by simp [DS.ls], z⟩)
    · exact .inr (.inr ⟨(A.b, c.ys), by simp [DS.ls], z⟩)
theorem desk_in : ∀ a o, H a = some o → ¬ (W.desk A h c).X a → ¬ W.X a := fun a o _ n z => n (.inl z)
theorem desk_ch : ∀ a o, H a = some o → ¬ (W.desk A h c).X a → ¬ (W.desk A h c').X a := fun a o _ n z => n (desk_X.mpr (desk_X.mp z))
theorem desk_ex (e : Ex W H H') : Ex (W.desk A h c) H H' := part_ex e
theorem ex_ch (e : Ex (W.desk A h c) H H') : Ex (W.desk A h c') H H' := ⟨fun a o ha t n => e.k a o ha t (desk_ch a o ha n)⟩
theorem desk_out (n : ∀ a, A.has a → H a = none) : ∀ a o, H a = some o → ¬ W.X a → ¬ (W.desk A h c).X a := fun a o ha m z => by
  rcases desk_X.mp z with z | z
  · exact m z
  · rw [n a z] at ha; cases ha
theorem ex_of_desk (n : ∀ a, A.has a → H a = none) (e : Ex (W.desk A h c) H H') : Ex W H H' := ⟨fun a o ha t m => e.k a o ha t (desk_out n a o ha m)⟩
theorem DkH.mono (d : DkH W H c) (e : Ex W H H') : DkH W H' c := ⟨d.a1.mono e, d.a2.mono e, d.a3.mono e⟩
theorem DkH.to (d : DkH W H c) (e : ∀ a o, H a = some o → ¬ W.X a → ¬ W2.X a) : DkH W2 H c := ⟨d.a1.to e, d.a2.to e, d.a3.to e⟩
/-- a desk in a slot, where nothing changes it -/
def isDkO (A : DA) (c : DS) (o : Ob) : Prop := ∃ lo, o = .keep (.ref A.x) ((A.x, .ins A.C A.dx (c.fs A)) :: (A.p1, .lst c.xs1) :: (A.p2, .lst c.xs2) :: (A.b, .lst c.ys) :: lo) ∧ DLA lo c.xs1 c.k.ps ∧ DLA lo c.xs2 c.k.ts ∧ DLA lo c.ys c.k.bk ∧ ∀ q ∈ lo, ¬ A.has q.1
theorem isDkO.obj {o : Ob} (i : isDkO A c o) : isObj A.C c.k.f o := by
  obtain ⟨lo, rfl, d1, d2, d3, _⟩ := i
  have up : ∀ {vs : List V} {ds : List PyData}, DLA lo vs ds → DLA ((A.x, HO.ins A.C A.dx (c.fs A)) :: (A.p1, .lst c.xs1) :: (A.p2, .lst c.xs2) :: (A.b, .lst c.ys) :: lo) vs ds := fun z => z.mono fun q hq => by simp [hq]
  exact ⟨A.x, A.dx, c.fs A, _, rfl, List.mem_cons_self .., .cons ⟨rfl, .int _⟩ (.cons ⟨rfl, .lst (by simp) (up d1)⟩ (.cons ⟨rfl, .lst (by simp) (up d2)⟩ (.cons ⟨rfl, .int _⟩ (.cons ⟨rfl, .int _⟩ (.cons ⟨rfl, .lst (by simp) (up d3)⟩ (.cons ⟨rfl, .bl _⟩ .nil))))))⟩
theorem desk_ob (j : (W.desk A h c).J H) (d : DkH (W.desk A h c) H c) : ∃ o, OD W H (.ref A.x) o ∧ isDkO A c o := by
  obtain ⟨jw, a⟩ := desk_J.mp j
  obtain ⟨l1, k1, e1⟩ := d.a1.l
  obtain ⟨l2, k2, e2⟩ := d.a2.l
  obtain ⟨l3, k3, e3⟩ := d.a3.l
  have kk := k1.app (k2.app k3)
  refine ⟨_, .keep fun q hq => ?_, l1 ++ (l2 ++ l3), rfl, e1.mono fun q hq => by simp [hq], e2.mono fun q hq => by simp [hq], e3.mono fun q hq => by simp [hq], fun q hq z => (kk q hq).2.1 (desk_X.mpr (.inr z))⟩
  simp only [List.mem_cons] at hq
  rcases hq with rfl | rfl | rfl | rfl | hq
  · exact ⟨a.x, h.x, fun ps z => by cases z⟩
  · exact ⟨a.p1, h.p1, fun ps z => by cases z⟩
  · exact ⟨a.p2, h.p2, fun ps z => by cases z⟩
  · exact ⟨a.b, h.b, fun ps z => by cases z⟩
  · exact ⟨(kk q hq).1, fun z => (kk q hq).2.1 (.inl z), (kk q hq).2.2⟩
theorem ob_desk {v : V} {o : Ob} (i : isDkO A c o) (d : OD W H v o) : v = .ref A.x ∧ At A c H ∧ DkH (W.desk A h c) H c := by
  obtain ⟨lo, rfl, d1, d2, d3, n⟩ := i
  obtain ⟨rfl, k⟩ := od_keep d
  have kl : Kept (W.desk A h c) H lo := fun q hq => by
    obtain ⟨a, b, e⟩ := k q (by simp [hq])
    exact ⟨a, fun z => (desk_X.mp z).elim b (n q hq), e⟩
  exact ⟨rfl, ⟨(k (A.x, .ins A.C A.dx (c.fs A)) (by simp)).1, (k (A.p1, .lst c.xs1) (by simp)).1, (k (A.p2, .lst c.xs2) (by simp)).1, (k (A.b, .lst c.ys) (by simp)).1⟩, d1.d kl, d2.d kl, d3.d kl⟩
end
end
end Dv

/-! from one world to another -/
namespace Dv
open PySem PySem.Spec L2 LamX LamD
open PyProof.Rows hiding St
section
variable {K : PySem.W.Frag} {T : List (Addr × Str)} {W W2 W3 : Wd K T} {G : Ctx}
structure Tr (W W2 : Wd K T) (H H' : Hp) : Prop where
  r : W2.r = W.r
  k : ∀ a o, H a = some o → (∀ ps, o ≠ .tbl ps) → ¬ W.X a → H' a = some o ∧ ¬ W2.X a
section
variable {H H' H1 H2 : Hp}
theorem Tr.ex (t : Tr W W2 H H') : Ex W H H' := ⟨fun a o h n x => (t.k a o h n x).1⟩
theorem Tr.trans (t : Tr W W2 H H1) (u : Tr W2 W3 H1 H2) : Tr W W3 H H2 := ⟨u.r.trans t.r, fun a o h n x => by
  obtain ⟨h1, x1⟩ := t.k a o h n x
  exact u.k a o h1 n x1⟩
theorem Tr.of (e : Ex W H H') : Tr W W H H' := ⟨rfl, fun a o h n x => ⟨e.k a o h n x, x⟩⟩
theorem Tr.to (er : W2.r = W.r) (e : ∀ a o, H a = some o → ¬ W.X a → ¬ W2.X a) : Tr W W2 H H := ⟨er, fun a o h _ x => ⟨h, e a o h x⟩⟩
mutual
theorem D.tr (t : Tr W W2 H H') : ∀ {v : V} {d : PyData}, D W H v d → D W2 H' v d
  | _, _, .non => .non
  | _, _, .bl b => .bl b
  | _, _, .int i => .int i
  | _, _, .str x => .str x
  | _, _, .lst r h a => .lst (t.k _ _ h (fun _ z => by cases z) r).2 (t.k _ _ h (fun _ z => by cases z) r).1 (DAll.tr t a)
  | _, _, .tup r h a => .tup (t.k _ _ h (fun _ z => by cases z) r).2 (t.k _ _ h (fun _ z => by cases z) r).1 (DAll.tr t a)
theorem DAll.tr (t : Tr W W2 H H') : ∀ {vs : List V} {ds : List PyData}, DAll W H vs ds → DAll W2 H' vs ds
  | _, _, .nil => .nil
  | _, _, .cons a b => .cons (D.tr t a) (DAll.tr t b)
end
theorem fds_tr (t : Tr W W2 H H') {vs : List (Str × V)} {ds : List (Str × PyData)} (r : Paired (fun p q => p.1 = q.1 ∧ D W H p.2 q.2) vs ds) : Paired (fun p q => p.1 = q.1 ∧ D W2 H' p.2 q.2) vs ds := by
  induction r with
  | nil => exact .nil
  | cons a _ ih => exact .cons ⟨a.1, a.2.tr t⟩ ih
theorem XD.tr (t : Tr W W2 H H') {c : Value} {d : Option Addr} {x : Xd} (h : XD W H c d x) : XD W2 H' c d x := by
  cases h with
  | non => exact .non
  | wth n a r => exact .wth (t.k _ _ a (fun _ z => by cases z) n).2 (t.k _ _ a (fun _ z => by cases z) n).1 (fds_tr t r)
theorem OD.tr (t : Tr W W2 H H') {v : V} {o : Ob} (h : OD W H v o) : OD W2 H' v o := by
  cases h with
  | dat b => exact .dat (b.tr t)
  | row b => exact .row (t.r.trans b)
  | cnt n b => exact .cnt (t.k _ _ b (fun _ z => by cases z) n).2 (t.k _ _ b (fun _ z => by cases z) n).1
  | fn => exact .fn
  | exc b => exact .exc (b.tr t)
  | keep b => exact .keep fun p hp => ⟨(t.k _ _ (b p hp).1 (b p hp).2.2 (b p hp).2.1).1, (t.k _ _ (b p hp).1 (b p hp).2.2 (b p hp).2.1).2, (b p hp).2.2⟩
theorem Sl.tr (t : Tr W W2 H H') {σ : L2.St} (h : Sl W H σ G) : Sl W2 H' σ G := ⟨h.len, fun i o q => by
  obtain ⟨v, a, b⟩ := h.at_ i o q
  exact ⟨v, a, b.tr t⟩⟩
theorem DkH.tr {c : DS} (t : Tr W W2 H H') (d : DkH W H c) : DkH W2 H' c := ⟨d.a1.tr t, d.a2.tr t, d.a3.tr t⟩
end
/-! an object's fields, as it is made -/
section
variable {C x dx : Addr} {fs : List (Str × V)} {l : List (Addr × List V)} {hx : ¬ W.X x} {hl : ∀ q ∈ l, ¬ W.X q.1 ∧ q.1 ≠ x} {H : Hp} {σ : L2.St} {D' : Ends}
theorem part_put {f : Str} {v : V} (j : (W.part C x dx fs l hx hl).J H) : (W.part C x dx (putF f v fs) l hx hl).J (upd H x (.ins C dx (putF f v fs))) ∧ Tr (W.part C x dx fs l hx hl) (W.part C x dx (putF f v fs) l hx hl) H (upd H x (.ins C dx (putF f v fs))) := by
  obtain ⟨j1, j2, j3⟩ := j
  refine ⟨⟨W.ju j1 (.inr (.inr (.inr ⟨_, _, _, j2⟩))) hx, upd_same, fun q hq => ?_⟩, rfl, fun a o h n z => ⟨?_, z⟩⟩
  · rw [upd_ne (hl q hq).2]
    exact j3 q hq
  · rw [upd_ne fun e => z (.inr (.inl e))]
    exact h
/-- self.f = e, e a number or a truth -/
theorem pf_flat {K' : PySem.W.Frag} {tv : TE} {i : Nat} {f : Str} {d : PyData} {v : V} {lk : List (Addr × HO)} (hg : G[i]? = some (some (.keep (.ref x) lk))) (hv : E K T tv G (· = d)) (hd : ∀ (W : Wd K T) (H : Hp) (u : V), D W H u d → u = v) (hc : Cls K' C) (hn : NoAttr K' C f) (hlen : fs.length < 1000)
    (s : Sl (W.part C x dx fs l hx hl) H σ G) (j : (W.part C x dx fs l hx hl).J H)
    (q : ∀ H', Tr (W.part C x dx fs l hx hl) (W.part C x dx (putF f v fs) l hx hl) H H' → (W.part C x dx (putF f v fs) l hx hl).J H' → D'.nx σ H') : sFld K' (tVar i) tv f D' σ H :=
  hv (W.part C x dx fs l hx hl) σ H s j _ fun u e H1 e1 j1 du eu => by
    subst eu
    obtain rfl := hd _ _ _ du
    obtain ⟨w, h1, h2⟩ := s.at_ i _ hg
    obtain ⟨rfl, _⟩ := od_keep h2
    refine ⟨.ref x, h1, x, C, dx, fs, rfl, j1.2.1, hc, hn, hlen, ?_⟩
    obtain ⟨jp, tp⟩ := part_put (f := f) (v := u) j1
    exact q _ ((Tr.of e1).trans tp) jp
/-- self.f = [..], a new list -/
theorem pf_lst {K' : PySem.W.Frag} {tv : TE} {i : Nat} {f : Str} {P : List PyData → Prop} {lk : List (Addr × HO)} (hg : G[i]? = some (some (.keep (.ref x) lk)))
    (hv : ∀ (W : Wd K T) (σ : L2.St) (H : Hp), Sl W H σ G → W.J H → ∀ Q : VK, (∀ p xs ds H1, Ex W H H1 → W.J H1 → H1 p = none → DAll W H1 xs ds → P ds → Q (.ref p) (upd H1 p (.lst xs))) → tv σ H Q) (hc : Cls K' C) (hn : NoAttr K' C f) (hlen : fs.length < 1000)
    (s : Sl (W.part C x dx fs l hx hl) H σ G) (j : (W.part C x dx fs l hx hl).J H)
    (q : ∀ p xs ds H' (hlp : ∀ q ∈ (p, xs) :: l, ¬ W.X q.1 ∧ q.1 ≠ x), (∀ q ∈ l, p ≠ q.1) → Tr (W.part C x dx fs l hx hl) (W.part C x dx (putF f (.ref p) fs) ((p, xs) :: l) hx hlp) H H' → (W.part C x dx (putF f (.ref p) fs) ((p, xs) :: l) hx hlp).J H' → DAll (W.part C x dx (putF f (.ref p) fs) ((p, xs) :: l) hx hlp) H' xs ds → P ds → D'.nx σ H') : sFld K' (tVar i) tv f D' σ H :=
  hv (W.part C x dx fs l hx hl) σ H s j _ fun p xs ds H1 e1 j1 np al pd => by
    obtain ⟨w, h1, h2⟩ := s.at_ i _ hg
    obtain ⟨rfl, _⟩ := od_keep h2
    obtain ⟨j1a, j1b, j1c⟩ := j1
    have px : p ≠ x := fun z => by rw [z, j1b] at np; cases np
    have pX : ¬ W.X p := new_ne j1a np
    have hlp : ∀ q ∈ (p, xs) :: l, ¬ W.X q.1 ∧ q.1 ≠ x := fun u hu => by
      rcases List.mem_cons.mp hu with rfl | hu
      · exact ⟨pX, px⟩
      · exact hl u hu
    have pl : ∀ u ∈ l, p ≠ u.1 := fun u hu z => by rw [z, j1c u hu] at np; cases np
    refine ⟨.ref x, h1, x, C, dx, fs, rfl, by rw [upd_ne (Ne.symm px)]; exact j1b, hc, hn, hlen, ?_⟩
    have j2 : (W.part C x dx fs ((p, xs) :: l) hx hlp).J (upd H1 p (.lst xs)) := ⟨j_new j1a np, by rw [upd_ne (Ne.symm px)]; exact j1b, fun u hu => by
      rcases List.mem_cons.mp hu with rfl | hu
      · exact upd_same
      · rw [upd_ne (Ne.symm (pl u hu))]
        exact j1c u hu⟩
    have t2 : Tr (W.part C x dx fs l hx hl) (W.part C x dx fs ((p, xs) :: l) hx hlp) H1 (upd H1 p (.lst xs)) := ⟨rfl, fun a o h n z => ⟨by
      rw [upd_ne (ne_of_none h np)]
      exact h, part_more (fs := fs) (fs' := fs) (hl := hl) (hlp := hlp) np a o h z⟩⟩
    obtain ⟨jp, tp⟩ := part_put (f := f) (v := .ref p) j2
    exact q p xs ds _ hlp pl (((Tr.of e1).trans t2).trans tp) jp (al.tr (t2.trans tp)) pd
theorem DAll.flat {W W2 : Wd K T} {H H' : Hp} : ∀ {xs : List V} {ds : List PyData}, ds.all flatD = true → DAll W H xs ds → DAll W2 H' xs ds
  | _, _, _, .nil => .nil
  | _, d :: ds, hf, .cons a t => by
    rw [List.all_cons, Bool.and_eq_true] at hf
    refine .cons ?_ (DAll.flat hf.2 t)
    cases a with
    | non => exact .non
    | bl b => exact .bl b
    | int i => exact .int i
    | str x => exact .str x
    | lst _ _ _ => cases hf.1
    | tup _ _ _ => cases hf.1
/-- self.f = [..], of what is flat -/
theorem pf_lstF {K' : PySem.W.Frag} {tv : TE} {i : Nat} {f : Str} {P : List PyData → Prop} {lk : List (Addr × HO)} (hg : G[i]? = some (some (.keep (.ref x) lk))) (hv : EL K T tv G P) (hf : ∀ ds, P ds → ds.all flatD = true) (hc : Cls K' C) (hn : NoAttr K' C f) (hlen : fs.length < 1000)
    (s : Sl (W.part C x dx fs l hx hl) H σ G) (j : (W.part C x dx fs l hx hl).J H)
    (q : ∀ p xs ds H' (hlp : ∀ q ∈ (p, xs) :: l, ¬ W.X q.1 ∧ q.1 ≠ x), (∀ q ∈ l, p ≠ q.1) → Tr (W.part C x dx fs l hx hl) (W.part C x dx (putF f (.ref p) fs) ((p, xs) :: l) hx hlp) H H' → (W.part C x dx (putF f (.ref p) fs) ((p, xs) :: l) hx hlp).J H' → DAll (W.part C x dx (putF f (.ref p) fs) ((p, xs) :: l) hx hlp) H' xs ds → P ds → D'.nx σ H') : sFld K' (tVar i) tv f D' σ H :=
  hv (W.part C x dx fs l hx hl) σ H s j _ fun p xs ds H1 ⟨H0, e0, n0, e1⟩ j1 pX hp al pd => by
    obtain ⟨w, h1, h2⟩ := s.at_ i _ hg
    obtain ⟨rfl, _⟩ := od_keep h2
    obtain ⟨j1a, j1b, j1c⟩ := j1
    have px : p ≠ x := fun z => pX (.inr (.inl z))
    have pW : ¬ W.X p := fun z => pX (.inl z)
    have hlp : ∀ q ∈ (p, xs) :: l, ¬ W.X q.1 ∧ q.1 ≠ x := fun u hu => by
      rcases List.mem_cons.mp hu with rfl | hu
      · exact ⟨pW, px⟩
      · exact hl u hu
    have pl : ∀ u ∈ l, p ≠ u.1 := fun u hu z => pX (.inr (.inr ⟨u, hu, z⟩))
    refine ⟨.ref x, h1, x, C, dx, fs, rfl, j1b, hc, hn, hlen, ?_⟩
    have j2 : (W.part C x dx fs ((p, xs) :: l) hx hlp).J H1 := ⟨j1a, j1b, fun u hu => by
      rcases List.mem_cons.mp hu with rfl | hu
      · exact hp
      · exact j1c u hu⟩
    have t2 : Tr (W.part C x dx fs l hx hl) (W.part C x dx fs ((p, xs) :: l) hx hlp) H H1 := ⟨rfl, fun a o h n z => by
      have h0 := e0.k a o h n z
      exact ⟨e1.k a o h0 n z, part_more (fs := fs) (fs' := fs) (hl := hl) (hlp := hlp) n0 a o h0 z⟩⟩
    obtain ⟨jp, tp⟩ := part_put (f := f) (v := .ref p) j2
    exact q p xs ds _ hlp pl (t2.trans tp) jp (DAll.flat (hf ds pd) al) pd
end
/-! making one -/
/-- te makes a desk of which R holds -/
def MK (K : PySem.W.Frag) (T : List (Addr × Str)) (C : Addr) (te : TE) (G : Ctx) (R : Dk → Prop) : Prop := ∀ (W : Wd K T) (σ : L2.St) (H : Hp), Sl W H σ G → W.J H → ∀ Q : VK, (∀ (A : DA) (h : A.Out W) (c : DS) (H' : Hp), A.C = C → Tr W (W.desk A h c) H H' → (W.desk A h c).J H' → DkH (W.desk A h c) H' c → R c.k → Q (.ref A.x) H') → te σ H Q
/-! statements that change it -/
structure EndD where
  nx : DS → Ctx → Prop := fun _ _ => False
  rt : PyData → Prop := fun _ => False
  rm : DS → PyData → Prop := fun _ _ => False
structure OkD (W : Wd K T) (A : DA) (h : A.Out W) (c : DS) (D' : Ends) (F : EndD) (H : Hp) : Prop where
  nx : ∀ σ' H' c' G', Ex (W.desk A h c) H H' → (W.desk A h c').J H' → DkH (W.desk A h c') H' c' → Sl (W.desk A h c') H' σ' G' → F.nx c' G' → D'.nx σ' H'
  rt : ∀ v d H', Ex (W.desk A h c) H H' → W.J H' → D W H' v d → F.rt d → D'.rt v H'
  rm : ∀ v d c' H', Ex (W.desk A h c) H H' → (W.desk A h c').J H' → DkH (W.desk A h c') H' c' → D (W.desk A h c') H' v d → F.rm c' d → D'.rt v H'
theorem OkD.mono {A : DA} {h : A.Out W} {c c' : DS} {D' : Ends} {F : EndD} {H H' : Hp} (o : OkD W A h c D' F H) (e : Ex (W.desk A h c) H H') : OkD W A h c' D' F H' :=
  ⟨fun σ' H2 c2 G' e2 => o.nx σ' H2 c2 G' (e.trans (ex_ch e2)), fun v d H2 e2 => o.rt v d H2 (e.trans (ex_ch e2)), fun v d c2 H2 e2 => o.rm v d c2 H2 (e.trans (ex_ch e2))⟩
def SD (K : PySem.W.Frag) (T : List (Addr × Str)) (A : DA) (t : TS) (c : DS) (G : Ctx) (F : EndD) : Prop := ∀ (W : Wd K T) (h : A.Out W) (D' : Ends) (σ : L2.St) (H : Hp), Sl (W.desk A h c) H σ G → (W.desk A h c).J H → DkH (W.desk A h c) H c → OkD W A h c D' F H → t D' σ H
section
variable {A : DA} {t u : TS} {c : DS} {F : EndD}
theorem sd_next (k : F.nx c G) : SD K T A tNext c G F := fun W h D' σ H s j d o => o.nx σ H c G (.refl H) j d s k
/-- what does not touch it -/
theorem sd_of {R : Ctx → Prop} (hS : S K T t G { nx := R }) (k : ∀ G', R G' → F.nx c G') : SD K T A t c G F := fun W h D' σ H s j d o =>
  hS (W.desk A h c) D' σ H s j ⟨fun σ' H' G' e j' s' r => o.nx σ' H' c G' e j' (d.mono e) s' (k G' r), fun _ _ _ _ _ _ f => f.elim, fun _ _ _ _ _ _ _ _ _ f => f.elim, fun _ _ _ _ _ _ f => f.elim, fun _ _ _ _ _ _ f => f.elim⟩
theorem sd_seq (hS : SD K T A t c G { F with nx := fun c' G' => SD K T A u c' G' F }) : SD K T A (tSeq t u) c G F := fun W h D' σ H s j d o =>
  hS W h { D' with nx := u D' } σ H s j d ⟨fun σ' H' c' G' e j' d' s' f => f W h D' σ' H' s' j' d' (o.mono e), o.rt, o.rm⟩
/-- the world in which it stays, with it in the slot i -/
theorem desk_keep {W : Wd K T} {h : A.Out W} {H : Hp} {σ : L2.St} {i : Nat} (s : Sl (W.desk A h c) H σ G) (j : (W.desk A h c).J H) (d : DkH (W.desk A h c) H c) (hi : G[i]? = some (some (.keep (.ref A.x) []))) : ∃ o, isDkO A c o ∧ Sl W H σ (G.set i (some o)) ∧ W.J H := by
  obtain ⟨o, d1, i1⟩ := desk_ob j d
  obtain ⟨v, h1, h2⟩ := s.at_ i _ hi
  obtain ⟨rfl, _⟩ := od_keep h2
  have s1 := (Sl.to (W := W.desk A h c) (W2 := W) desk_in rfl s).set (i := i) d1
  have e : σ.set i (some (.ref A.x)) = σ := by
    obtain ⟨hl, hv⟩ := List.getElem?_eq_some_iff.mp h1
    rw [← hv, List.set_getElem_self]
  rw [e] at s1
  exact ⟨o, i1, s1, (desk_J.mp j).1⟩
theorem keep_desk {W : Wd K T} {h : A.Out W} {H H' : Hp} {v : V} {o : Ob} (i1 : isDkO A c o) (d1 : OD W H v o) (e : Ex W H H') (jj : W.J H') : (W.desk A h c).J H' ∧ DkH (W.desk A h c) H' c := by
  obtain ⟨_, a, k⟩ := ob_desk (h := h) i1 (d1.mono e)
  exact ⟨desk_J.mpr ⟨jj, a⟩, k⟩
/-- a test that only reads it -/
theorem sd_if {tt : TT} {i : Nat} {b : Bool} (hi : G[i]? = some (some (.keep (.ref A.x) []))) (ht : ∀ o, isDkO A c o → ET K T tt (G.set i (some o)) (· = b)) (h1 : b = true → SD K T A t c G F) (h2 : b = false → SD K T A u c G F) : SD K T A (tIfS tt t u) c G F := fun W h D' σ H s j d o => by
  obtain ⟨ob, i1, s1, jw⟩ := desk_keep s j d hi
  refine ht ob i1 W σ H s1 jw _ fun b' H1 e1 j1 eb => ?_
  subst eb
  obtain ⟨v, _, hv⟩ := s1.at_ i ob (by rw [List.getElem?_set_self (List.getElem?_eq_some_iff.mp hi).1])
  obtain ⟨jd, kd⟩ := keep_desk (h := h) i1 hv e1 j1
  cases b' with
  | true => exact iteT (h1 rfl W h D' σ H1 (s.mono (desk_ex e1)) jd kd (o.mono (desk_ex e1)))
  | false => exact iteF (h2 rfl W h D' σ H1 (s.mono (desk_ex e1)) jd kd (o.mono (desk_ex e1)))
/-- a line that only reads it -/
theorem sd_drop {te : TE} {i : Nat} {P : PyData → Prop} (hi : G[i]? = some (some (.keep (.ref A.x) []))) (ht : ∀ o, isDkO A c o → E K T te (G.set i (some o)) P) (k : F.nx c G) : SD K T A (tDrop te) c G F := fun W h D' σ H s j d o => by
  obtain ⟨ob, i1, s1, jw⟩ := desk_keep s j d hi
  refine ht ob i1 W σ H s1 jw _ fun v e H1 e1 j1 dv p => ?_
  obtain ⟨v, _, hv⟩ := s1.at_ i ob (by rw [List.getElem?_set_self (List.getElem?_eq_some_iff.mp hi).1])
  obtain ⟨jd, kd⟩ := keep_desk (h := h) i1 hv e1 j1
  exact o.nx σ H1 c G (desk_ex e1) jd kd (s.mono (desk_ex e1)) k
theorem sd_ret {te : TE} {i : Nat} {P : PyData → Prop} (hi : G[i]? = some (some (.keep (.ref A.x) []))) (ht : ∀ o, isDkO A c o → E K T te (G.set i (some o)) P) (k : ∀ d, P d → F.rt d) : SD K T A (tRet te) c G F := fun W h D' σ H s j d o => by
  obtain ⟨ob, i1, s1, jw⟩ := desk_keep s j d hi
  exact ht ob i1 W σ H s1 jw _ fun v e H1 e1 j1 dv p => o.rt v e H1 (desk_ex e1) j1 dv (k e p)
/-- a test that may change it: b is what it tells, R what holds then -/
def TD (K : PySem.W.Frag) (T : List (Addr × Str)) (A : DA) (tt : TT) (c : DS) (G : Ctx) (b : Bool) (R : DS → Prop) : Prop := ∀ (W : Wd K T) (h : A.Out W) (σ : L2.St) (H : Hp), Sl (W.desk A h c) H σ G → (W.desk A h c).J H → DkH (W.desk A h c) H c → ∀ Q : Bool → Hp → Prop,
  (∀ c' H', Ex (W.desk A h c) H H' → (W.desk A h c').J H' → DkH (W.desk A h c') H' c' → R c' → Q b H') → tt σ H Q
theorem sd_ifT {tt : TT} {b : Bool} {R : DS → Prop} (ht : TD K T A tt c G b R) (h1 : b = true → ∀ c', R c' → SD K T A t c' G F) (h2 : b = false → ∀ c', R c' → SD K T A u c' G F) : SD K T A (tIfS tt t u) c G F := fun W h D' σ H s j d o => by
  refine ht W h σ H s j d _ fun c' H1 e1 j1 d1 r => ?_
  have s1 : Sl (W.desk A h c') H1 σ G := Sl.to (W := W.desk A h c) (W2 := W.desk A h c') desk_ch rfl (s.mono e1)
  cases b with
  | true => exact iteT (h1 rfl c' r W h D' σ H1 s1 j1 d1 (o.mono e1))
  | false => exact iteF (h2 rfl c' r W h D' σ H1 s1 j1 d1 (o.mono e1))
/-- an expression that may change it -/
def EM (K : PySem.W.Frag) (T : List (Addr × Str)) (A : DA) (te : TE) (c : DS) (G : Ctx) (R : DS → PyData → Prop) : Prop := ∀ (W : Wd K T) (h : A.Out W) (σ : L2.St) (H : Hp), Sl (W.desk A h c) H σ G → (W.desk A h c).J H → DkH (W.desk A h c) H c → ∀ Q : VK,
  (∀ c' v d H', Ex (W.desk A h c) H H' → (W.desk A h c').J H' → DkH (W.desk A h c') H' c' → D (W.desk A h c') H' v d → R c' d → Q v H') → te σ H Q
theorem sd_retM {te : TE} {R : DS → PyData → Prop} (he : EM K T A te c G R) (k : ∀ c' d, R c' d → F.rm c' d) : SD K T A (tRet te) c G F := fun W h D' σ H s j d o =>
  he W h σ H s j d _ fun c' v e H1 e1 j1 d1 dv r => o.rm v e c' H1 e1 j1 d1 dv (k c' e r)
/-- a test of what does not touch it -/
theorem sd_ifE {tt : TT} {b : Bool} (ht : ET K T tt G (· = b)) (h1 : b = true → SD K T A t c G F) (h2 : b = false → SD K T A u c G F) : SD K T A (tIfS tt t u) c G F := fun W h D' σ H s j d o =>
  ht (W.desk A h c) σ H s j _ fun b' H1 e1 j1 eb => by
    subst eb
    cases b' with
    | true => exact iteT (h1 rfl W h D' σ H1 (s.mono e1) j1 (d.mono e1) (o.mono e1))
    | false => exact iteF (h2 rfl W h D' σ H1 (s.mono e1) j1 (d.mono e1) (o.mono e1))
/-- the loop -/
theorem sd_for {wi : TI} {g : TG} {vs : List Nat} {n : Nat} {yd : Nat → PyData → Prop} (I : Nat → DS → Ctx → Prop) (hi : Iw K T wi G n yd) (h0 : I 0 c G)
    (hs : ∀ i d c' G', i < n → yd i d → I i c' G' → ∃ G2, Tg K T g vs d G' G2 ∧ SD K T A t c' G2 { F with nx := I (i + 1) }) (hd : ∀ c' G', I n c' G' → F.nx c' G') : SD K T A (tFor wi g t) c G F := fun W h D' σ H s j dd ok => hi (W.desk A h c) σ H s j _ fun J' H1 Gd Y e1 j1 w hG hY => by
  have cp : ∀ c', Cp (W.desk A h c) (W.desk A h c') H1 := fun c' v d z => z.to desk_ch
  refine for_it w (fun i σ' H' => ∃ c' G', Ex (W.desk A h c) H1 H' ∧ (W.desk A h c').J H' ∧ DkH (W.desk A h c') H' c' ∧ Sl (W.desk A h c') H' σ' G' ∧ I i c' G') ⟨c, G, .refl _, j1, dd.mono e1, s.mono e1, h0⟩ (fun i σ' H' _ ⟨c', G', e, _⟩ => hG (W.desk A h c) H' (cp c) e) (fun i x σ' H' H2 hin ⟨c', G', e, j2, d2, s2, hI⟩ y => ?_) fun σ' H' ⟨c', G', e, j2, d2, s2, hI⟩ => ok.nx _ _ _ _ (e1.trans e) j2 d2 s2 (hd c' G' hI)
  obtain ⟨e3, j3, d, dx, yx⟩ := hY (W.desk A h c') i H' x H2 (cp c') hin (ex_ch e) j2 y
  obtain ⟨G2, tg, hb⟩ := hs i d c' G' hin yx hI
  refine tg (W.desk A h c') σ' H2 x (s2.mono e3) dx _ fun σ3 s3 _ _ => hb W h _ σ3 H2 s3 j3 (d2.mono e3) ?_
  have ee := e1.trans (e.trans (ex_ch e3))
  exact ⟨fun σ4 H4 c4 G4 e4 j4 d4 s4 f => ⟨c4, G4, (e.trans (ex_ch e3)).trans (ex_ch e4), j4, d4, s4, f⟩, fun v d H4 e4 => ok.rt v d H4 (ee.trans (ex_ch e4)), fun v d c4 H4 e4 => ok.rm v d c4 H4 (ee.trans (ex_ch e4))⟩
/-- x = Desk(..), and what comes behind it -/
theorem s_desk {te : TE} {i : Nat} {C : Addr} {R : Dk → Prop} {E0' : EndG} (hm : MK K T C te G R) (hu : ∀ (A : DA) (c : DS), A.C = C → R c.k → SD K T A u c (G.set i (some (.keep (.ref A.x) []))) { rt := E0'.rt }) : S K T (tSeq (tAsg te (gName i)) u) G E0' := fun W D' σ H s j ok =>
  hm W σ H s j _ fun A h c H1 hC t1 j1 d1 r => hu A c hC r W h D' _ H1 ((s.tr t1).set (.keep fun p hp => (List.not_mem_nil hp).elim)) j1 d1
    ⟨fun _ _ _ _ _ _ _ _ f => f.elim, fun v d H2 e2 j2 dv f => ok.rt v d H2 (t1.trans (Tr.of e2)).ex j2 dv f, fun _ _ _ _ _ _ _ _ f => f.elim⟩
end
end
end Dv

/-! a family of worlds: what a statement does to what is set apart -/
namespace Dv
open PySem PySem.Spec L2 LamX LamD
open PyProof.Rows hiding St
section
variable {K : PySem.W.Frag} {T : List (Addr × Str)} {ι : Type}
structure Fam (K : PySem.W.Frag) (T : List (Addr × Str)) (ι : Type) where
  F : ι → Wd K T
  N : ι → Hp → Prop
  r : ∀ a b, (F b).r = (F a).r
  x : ∀ a b p, (F b).X p ↔ (F a).X p
  m : ∀ {c H H'}, N c H → Ex (F c) H H' → N c H'
variable {M : Fam K T ι}
theorem Fam.to (M : Fam K T ι) {a b : ι} {H : Hp} : ∀ p o, H p = some o → ¬ (M.F a).X p → ¬ (M.F b).X p := fun p _ _ n z => n ((M.x a b p).mp z)
theorem Fam.ex (M : Fam K T ι) {a b : ι} {H H' : Hp} (e : Ex (M.F a) H H') : Ex (M.F b) H H' := ⟨fun p o h n z => e.k p o h n fun y => z ((M.x a b p).mpr y)⟩
structure EndF (ι : Type) where
  nx : ι → Ctx → Prop := fun _ _ => False
  ct : ι → Ctx → Prop := fun _ _ => False
  bk : ι → Ctx → Prop := fun _ _ => False
  rt : ι → PyData → Prop := fun _ _ => False
  xc : ι → Xd → Prop := fun _ _ => False
structure OkF (M : Fam K T ι) (c : ι) (D' : Ends) (Ech : XK) (E : EndF ι) (H : Hp) : Prop where
  nx : ∀ σ' H' c' G', Ex (M.F c) H H' → (M.F c').J H' → M.N c' H' → Sl (M.F c') H' σ' G' → E.nx c' G' → D'.nx σ' H'
  ct : ∀ σ' H' c' G', Ex (M.F c) H H' → (M.F c').J H' → M.N c' H' → Sl (M.F c') H' σ' G' → E.ct c' G' → D'.ct σ' H'
  bk : ∀ σ' H' c' G', Ex (M.F c) H H' → (M.F c').J H' → M.N c' H' → Sl (M.F c') H' σ' G' → E.bk c' G' → D'.bk σ' H'
  rt : ∀ v d c' H', Ex (M.F c) H H' → (M.F c').J H' → M.N c' H' → D (M.F c') H' v d → E.rt c' d → D'.rt v H'
  xc : ∀ cv dd x c' H', Ex (M.F c) H H' → (M.F c').J H' → M.N c' H' → XD (M.F c') H' cv dd x → E.xc c' x → Ech cv dd H'
variable {Ech : XK} {E : EndF ι}
theorem OkF.mono {c c' : ι} {D' : Ends} {H H' : Hp} (o : OkF M c D' Ech E H) (e : Ex (M.F c) H H') : OkF M c' D' Ech E H' :=
  ⟨fun σ' H2 c2 G' e2 => o.nx σ' H2 c2 G' (e.trans (M.ex e2)), fun σ' H2 c2 G' e2 => o.ct σ' H2 c2 G' (e.trans (M.ex e2)), fun σ' H2 c2 G' e2 => o.bk σ' H2 c2 G' (e.trans (M.ex e2)), fun v d c2 H2 e2 => o.rt v d c2 H2 (e.trans (M.ex e2)), fun cv dd x c2 H2 e2 => o.xc cv dd x c2 H2 (e.trans (M.ex e2))⟩
def SF (M : Fam K T ι) (Ech : XK) (t : TS) (c : ι) (G : Ctx) (E : EndF ι) : Prop := ∀ (D' : Ends) (σ : L2.St) (H : Hp), Sl (M.F c) H σ G → (M.F c).J H → M.N c H → OkF M c D' Ech E H → t D' σ H
section
variable {t u : TS} {c : ι} {G : Ctx}
theorem sf_next (k : E.nx c G) : SF M Ech tNext c G E := fun D' σ H s j n o => o.nx σ H c G (.refl H) j n s k
theorem sf_seq (h : SF M Ech t c G { E with nx := fun c' G' => SF M Ech u c' G' E }) : SF M Ech (tSeq t u) c G E := fun D' σ H s j n o =>
  h { D' with nx := u D' } σ H s j n ⟨fun σ' H' c' G' e j' n' s' f => f D' σ' H' s' j' n' (o.mono e), o.ct, o.bk, o.rt, o.xc⟩
/-- what touches nothing of it, and may raise -/
theorem sf_of {R : Ctx → Prop} {Rt : PyData → Prop} {X : Xd → Prop} (h : SX K T Ech t G { nx := R, rt := Rt } X) (k : ∀ G', R G' → E.nx c G') (kr : ∀ d, Rt d → E.rt c d) (kx : ∀ x, X x → E.xc c x) : SF M Ech t c G E := fun D' σ H s j n o =>
  h (M.F c) D' σ H s j ⟨fun σ' H' G' e j' s' r => o.nx σ' H' c G' e j' (M.m n e) s' (k G' r), fun v d H' e j' dv r => o.rt v d c H' e j' (M.m n e) dv (kr d r), fun _ _ _ _ _ _ _ _ _ f => f.elim, fun _ _ _ _ _ _ f => f.elim, fun _ _ _ _ _ _ f => f.elim⟩ fun cv dd x H' e j' dx px => o.xc cv dd x c H' e j' (M.m n e) dx (kx x px)
theorem sf_ofS {R : Ctx → Prop} (h : S K T t G { nx := R }) (k : ∀ G', R G' → E.nx c G') : SF M Ech t c G E := fun D' σ H s j n o =>
  h (M.F c) D' σ H s j ⟨fun σ' H' G' e j' s' r => o.nx σ' H' c G' e j' (M.m n e) s' (k G' r), fun _ _ _ _ _ _ f => f.elim, fun _ _ _ _ _ _ _ _ _ f => f.elim, fun _ _ _ _ _ _ f => f.elim, fun _ _ _ _ _ _ f => f.elim⟩
theorem sf_if {tt : TT} {b : Bool} (ht : ET K T tt G (· = b)) (h1 : b = true → SF M Ech t c G E) (h2 : b = false → SF M Ech u c G E) : SF M Ech (tIfS tt t u) c G E := fun D' σ H s j n o =>
  ht (M.F c) σ H s j _ fun b' H1 e1 j1 eb => by
    subst eb
    cases b' with
    | true => exact iteT (h1 rfl D' σ H1 (s.mono e1) j1 (M.m n e1) (o.mono e1))
    | false => exact iteF (h2 rfl D' σ H1 (s.mono e1) j1 (M.m n e1) (o.mono e1))
/-- a test of what is set apart: it changes nothing -/
def TF (M : Fam K T ι) (tt : TT) (c : ι) (G : Ctx) (b : Bool) : Prop := ∀ (σ : L2.St) (H : Hp), Sl (M.F c) H σ G → (M.F c).J H → M.N c H → ∀ Q : Bool → Hp → Prop, (∀ H', Ex (M.F c) H H' → (M.F c).J H' → Q b H') → tt σ H Q
theorem tf_of {tt : TT} {b : Bool} (h : ET K T tt G (· = b)) : TF M tt c G b := fun σ H s j n Q q => h (M.F c) σ H s j _ fun b' H' e j' eb => by rw [eb]; exact q H' e j'
theorem sf_ifT {tt : TT} {b : Bool} (ht : TF M tt c G b) (h1 : b = true → SF M Ech t c G E) (h2 : b = false → SF M Ech u c G E) : SF M Ech (tIfS tt t u) c G E := fun D' σ H s j n o =>
  ht σ H s j n _ fun H1 e1 j1 => by
    cases b with
    | true => exact iteT (h1 rfl D' σ H1 (s.mono e1) j1 (M.m n e1) (o.mono e1))
    | false => exact iteF (h2 rfl D' σ H1 (s.mono e1) j1 (M.m n e1) (o.mono e1))
theorem sf_while {tt : TT} {tb : TS} (I : Nat → ι → Ctx → Prop) {m0 : Nat} (h0 : I m0 c G) (hs : ∀ m c' G', I m c' G' → ∃ b, TF M tt c' G' b ∧ (b = true → SF M Ech tb c' G' { E with nx := fun c2 G2 => ∃ m', m' < m ∧ I m' c2 G2, ct := fun c2 G2 => ∃ m', m' < m ∧ I m' c2 G2, bk := E.nx }) ∧ (b = false → E.nx c' G')) : SF M Ech (tWhile tt tb) c G E := fun D' σ H s j n ok =>
  ⟨fun m σ' H' => ∃ c' G', Ex (M.F c) H H' ∧ (M.F c').J H' ∧ M.N c' H' ∧ Sl (M.F c') H' σ' G' ∧ I m c' G', ⟨m0, c, G, .refl H, j, n, s, h0⟩, fun m σ1 H1 ⟨c1, G1, e1, j1, n1, s1, i1⟩ => by
    obtain ⟨b, ht, h1, h2⟩ := hs m c1 G1 i1
    refine ht σ1 H1 s1 j1 n1 _ fun H2 e2 j2 => ?_
    have e12 : Ex (M.F c) H H2 := e1.trans (M.ex e2)
    cases b with
    | true => exact iteT ⟨fun σ' H' => ∃ m', m' < m ∧ ∃ c' G', Ex (M.F c) H H' ∧ (M.F c').J H' ∧ M.N c' H' ∧ Sl (M.F c') H' σ' G' ∧ I m' c' G', fun σ' H' w => w, h1 rfl _ σ1 H2 (s1.mono e2) j2 (M.m n1 e2) ⟨fun σ' H' c' G' e j' n' s' ⟨m', lt, i'⟩ => ⟨m', lt, c', G', e12.trans (M.ex e), j', n', s', i'⟩, fun σ' H' c' G' e j' n' s' ⟨m', lt, i'⟩ => ⟨m', lt, c', G', e12.trans (M.ex e), j', n', s', i'⟩, fun σ' H' c' G' e j' n' s' r => ok.nx σ' H' c' G' (e12.trans (M.ex e)) j' n' s' r, fun v d c' H' e => ok.rt v d c' H' (e12.trans (M.ex e)), fun cv dd x c' H' e => ok.xc cv dd x c' H' (e12.trans (M.ex e))⟩⟩
    | false => exact iteF (ok.nx σ1 H2 c1 G1 e12 j2 (M.m n1 e2) (s1.mono e2) (h2 rfl))⟩
theorem sf_for {wi : TI} {g : TG} {vs : List Nat} {n : Nat} {yd : Nat → PyData → Prop} (I : Nat → ι → Ctx → Prop) (hi : Iw K T wi G n yd) (h0 : I 0 c G)
    (hs : ∀ i d c' G', i < n → yd i d → I i c' G' → ∃ G2, Tg K T g vs d G' G2 ∧ SF M Ech t c' G2 { E with nx := I (i + 1), ct := I (i + 1), bk := E.nx }) (hd : ∀ c' G', I n c' G' → E.nx c' G') : SF M Ech (tFor wi g t) c G E := fun D' σ H s j nn ok => hi (M.F c) σ H s j _ fun J' H1 Gd Y e1 j1 w hG hY => by
  have cp : ∀ c', Cp (M.F c) (M.F c') H1 := fun c' v d z => z.to M.to
  refine for_it w (fun i σ' H' => ∃ c' G', Ex (M.F c) H1 H' ∧ (M.F c').J H' ∧ M.N c' H' ∧ Sl (M.F c') H' σ' G' ∧ I i c' G') ⟨c, G, .refl _, j1, M.m nn e1, s.mono e1, h0⟩ (fun i σ' H' _ ⟨c', G', e, _⟩ => hG (M.F c) H' (cp c) e) (fun i x σ' H' H2 hin ⟨c', G', e, j2, n2, s2, hI⟩ y => ?_) fun σ' H' ⟨c', G', e, j2, n2, s2, hI⟩ => ok.nx _ _ _ _ (e1.trans e) j2 n2 s2 (hd c' G' hI)
  obtain ⟨e3, j3, d, dx, yx⟩ := hY (M.F c') i H' x H2 (cp c') hin (M.ex e) j2 y
  obtain ⟨G2, tg, hb⟩ := hs i d c' G' hin yx hI
  refine tg (M.F c') σ' H2 x (s2.mono e3) dx _ fun σ3 s3 _ _ => hb _ σ3 H2 s3 j3 (M.m n2 e3) ?_
  have ee := e1.trans (e.trans (M.ex e3))
  exact ⟨fun σ4 H4 c4 G4 e4 j4 n4 s4 f => ⟨c4, G4, (e.trans (M.ex e3)).trans (M.ex e4), j4, n4, s4, f⟩, fun σ4 H4 c4 G4 e4 j4 n4 s4 f => ⟨c4, G4, (e.trans (M.ex e3)).trans (M.ex e4), j4, n4, s4, f⟩, fun σ4 H4 c4 G4 e4 j4 n4 s4 f => ok.nx σ4 H4 c4 G4 (ee.trans (M.ex e4)) j4 n4 s4 f, fun v d c4 H4 e4 => ok.rt v d c4 H4 (ee.trans (M.ex e4)), fun cv dd x c4 H4 e4 => ok.xc cv dd x c4 H4 (ee.trans (M.ex e4))⟩
theorem sf_cont (k : E.ct c G) : SF M Ech tCont c G E := fun D' σ H s j n o => o.ct σ H c G (.refl H) j n s k
theorem sf_raise {m : L2.St → Hp → XK → Prop} {X : Xd → Prop} (h : MX K T m G X) (kx : ∀ x, X x → E.xc c x) : SF M Ech (fun _ σ H => m σ H fun cv d H' => Ech cv d H') c G E := fun D' σ H s j n o =>
  h (M.F c) σ H s j _ fun cv dd x H' e j' dx px => o.xc cv dd x c H' e j' (M.m n e) dx (kx x px)
end
end
end Dv

/-! any object set aside -/
namespace Dv
open PySem PySem.Spec L2 LamX LamD
open PyProof.Rows hiding St
section
variable {K : PySem.W.Frag} {T : List (Addr × Str)} {W W2 : Wd K T}
theorem del_upd {H : Hp} {p q : Addr} {u : HO} (ne : q ≠ p) : del (upd H q u) p = upd (del H p) q u := by
  funext b
  by_cases hb : b = p
  · subst hb
    rw [del_same, upd_ne (Ne.symm ne), del_same]
  · rw [del_ne hb]
    by_cases hq : b = q
    · rw [hq, upd_same, upd_same]
    · rw [upd_ne hq, upd_ne hq, del_ne hb]
theorem del_updS {H : Hp} {p : Addr} {u : HO} : del (upd H p u) p = del H p := by
  funext b
  by_cases hb : b = p
  · subst hb
    rw [del_same, del_same]
  · rw [del_ne hb, upd_ne hb, del_ne hb]
theorem upd_del {H : Hp} {p : Addr} {o : HO} (h : H p = some o) : upd (del H p) p o = H := by
  funext b
  by_cases hb : b = p
  · subst hb
    rw [upd_same, h]
  · rw [upd_ne hb, del_ne hb]
theorem del_none {H : Hp} {p : Addr} (h : H p = none) : del H p = H := by
  funext b
  by_cases hb : b = p
  · subst hb
    rw [del_same, h]
  · rw [del_ne hb]
/-- neither a table nor a code object -/
structure Plain (p : Addr) (o : HO) : Prop where
  t : ∀ ps, o ≠ .tbl ps
  c : ∀ q, o ≠ LamX.CodeO p q
theorem plain_lst {p : Addr} (xs : List V) : Plain p (.lst xs) := ⟨(fun _ z => by cases z), (fun q z => by unfold LamX.CodeO at z; cases z)⟩
theorem plain_dT {p : Addr} (xs : List (List Key × V)) : Plain p (.dT xs) := ⟨(fun _ z => by cases z), (fun q z => by unfold LamX.CodeO at z; cases z)⟩
theorem tabs_del {H : Hp} {p : Addr} {o : HO} (t : LamX.Tabs T H) (h : H p = some o) (ho : Plain p o) : LamX.Tabs T (del H p) := fun q hq => by
  obtain ⟨ps, h1, h2, h3⟩ := t q hq
  have n1 : q.1 ≠ p := fun z => by rw [z, h] at h1; exact ho.t _ (Option.some.inj h1)
  refine ⟨ps, by rw [del_ne n1]; exact h1, h2, fun pos cv hc => ?_⟩
  obtain ⟨c, e, hcc⟩ := h3 pos cv hc
  exact ⟨c, e, by rw [del_ne fun z => by rw [z, h] at hcc; exact ho.c _ (Option.some.inj hcc)]; exact hcc⟩
theorem tabs_of_del {H : Hp} {p : Addr} (t : LamX.Tabs T (del H p)) : LamX.Tabs T H := fun q hq => by
  obtain ⟨ps, h1, h2, h3⟩ := t q hq
  have n1 : q.1 ≠ p := fun z => by rw [z, del_same] at h1; cases h1
  refine ⟨ps, by rw [del_ne n1] at h1; exact h1, h2, fun pos cv hc => ?_⟩
  obtain ⟨c, e, hcc⟩ := h3 pos cv hc
  have n2 : c ≠ p := fun z => by rw [z, del_same] at hcc; cases hcc
  exact ⟨c, e, by rw [del_ne n2] at hcc; exact hcc⟩
/-- W, the object at p set aside -/
def Wd.aside (W : Wd K T) (p : Addr) (hp : ¬ W.X p) (o : HO) (ho : Plain p o) : Wd K T where
  r := W.r
  X := fun a => W.X a ∨ a = p
  J := fun H => W.J (del H p) ∧ H p = some o
  ju := fun {H q u} j f n => by
    have ne : q ≠ p := fun z => n (.inr z)
    refine ⟨?_, by rw [upd_ne (Ne.symm ne)]; exact j.2⟩
    rw [del_upd ne]
    refine W.ju j.1 ?_ fun z => n (.inl z)
    unfold Fre at f ⊢
    rw [del_ne ne]
    exact f
  jx := fun {H a} j z => by
    rcases z with z | rfl
    · have ne : a ≠ p := fun e => hp (by rw [← e]; exact z)
      have := W.jx j.1 z
      rw [del_ne ne] at this
      exact this
    · rw [j.2]; simp
  xc := fun {H a q} j z => by
    rcases z with z | rfl
    · have ne : a ≠ p := fun e => hp (by rw [← e]; exact z)
      have := W.xc (q := q) j.1 z
      rw [del_ne ne] at this
      exact this
    · rw [j.2]
      intro e
      exact ho.c _ (Option.some.inj e)
  jt := fun {H H1} j e t => by
    have hp1 : H1 p = some o := e _ _ j.2 ho.t
    refine ⟨W.jt j.1 (fun b u hb hn => ?_) (tabs_del t hp1 ho), hp1⟩
    have ne : b ≠ p := fun z => by rw [z, del_same] at hb; cases hb
    rw [del_ne ne] at hb ⊢
    exact e b u hb hn
  jT := fun {H} j => tabs_of_del (W.jT j.1)
  rx := fun {a} e => .inl (W.rx e)
  row := fun {H a} j e => by
    have ne : a ≠ p := fun z => hp (by rw [← z]; exact W.rx e)
    have := W.row j.1 e
    obtain ⟨sc, ns, i, c, m, h1, h2, h3⟩ := this
    refine ⟨sc, ns, i, c, m, by rw [del_ne ne] at h1; exact h1, ?_, h3⟩
    rcases h2 with (h2 | ⟨u, h2⟩) | h2
    · exact .inl (.inl (by rw [del_ne fun z => by rw [z, del_same] at h2; cases h2] at h2; exact h2))
    · exact .inl (.inr ⟨u, by rw [del_ne fun z => by rw [z, del_same] at h2; cases h2] at h2; exact h2⟩)
    · exact .inr h2
  jw := fun {H a sc i c m i' c' m'} j e h h1 h2 h3 => by
    have ne : a ≠ p := fun z => hp (by rw [← z]; exact W.rx e)
    refine ⟨?_, by rw [upd_ne (Ne.symm ne)]; exact j.2⟩
    rw [del_upd ne]
    exact W.jw j.1 e (by rw [del_ne ne]; exact h) h1 h2 h3
section
variable {p : Addr} {hp : ¬ W.X p} {o o' : HO} {ho : Plain p o} {ho' : Plain p o'} {H H' : Hp}
theorem aside_put (j : (W.aside p hp o ho).J H) : (W.aside p hp o' ho').J (upd H p o') ∧ Ex (W.aside p hp o ho) H (upd H p o') := ⟨⟨by rw [del_updS]; exact j.1, upd_same⟩, ⟨fun a u h _ n => by rw [upd_ne fun z => n (.inr z)]; exact h⟩⟩
theorem aside_new (j : W.J H) (n : H p = none) : (W.aside p hp o ho).J (upd H p o) := ⟨by rw [del_updS, del_none n]; exact j, upd_same⟩
theorem aside_end (j : (W.aside p hp o ho).J H) : W.J H := by
  have z := W.ju (o := o) (p := p) j.1 (.inl del_same) hp
  rwa [upd_del j.2] at z
theorem aside_tr (n : H p = none) (e : ∀ a u, H a = some u → (∀ ps, u ≠ .tbl ps) → ¬ W.X a → H' a = some u) : Tr W (W.aside p hp o ho) H H' := ⟨rfl, fun a u h t x => ⟨e a u h t x, fun z => z.elim x fun e => by rw [e, n] at h; cases h⟩⟩
end
end
end Dv

/-! an own exception made of any value whose text is told -/
namespace PySem
namespace XIn
open PySem.W PySem.Calls PyProof.Rows PySem.HandSPX
section
variable {prog : Program} {w : World} {A : Around} {E : Value → Shared → Prop} {R : Result → Shared → Prop} {s : Shared} {K : Frag} {mg : Str → Option Value} {C fI : Addr} {fd : FuncData} {nm fld txt : Str} {base : Heap}
theorem init_runT (T : OwnI prog K mg C fI fd nm fld txt) {x t0 : Addr} {u : Value} {args : Args} (X : K.In s.heap) (hm : L2.Mod K mg base) (hb : ∀ b o, base.get? b = some o → s.heap.get? b = some o) (hlim : s.heap.NoLimit) (hx : s.heap.get? x = some (excO C t0)) (hnx : K.lookup x = none) (hroom : A.depth < recursionLimit)
    (hbind : BindsTo s fd args [("self", .ref x), (nm, u)]) (hun : A.units + 100 < cLine) (hfmt : ∀ (A' : Around) (E' : Value → Shared → Prop) (s' : Shared) (Q : Value → Shared → Prop), A'.units ≤ A.units + 90 → (∀ b o, s.heap.get? b = some o → b ≠ x → s'.heap.get? b = some o) → (∀ (m : Str) (v tk' : Tok), m.length ≤ 100000 → Q (.str m v) { s' with toks := tk' }) → wpAny (model prog w) A' (formatField u Str.empty) Q E' s')
    (hq : ∀ h' tk' dx t1, InitEnd s.heap h' x C dx t1 fld u → R (.ok (.ret .none)) { s with heap := h', toks := tk' }) :
    codeAny (model prog w) A (.call (.ref fI) args) R s := by
  obtain ⟨oc, od, kV, doc, pm, an, ct, osl, cc, cda, qual, j, p1, p2, q1, q2, q3, q4, q5, q6, q7, q8, q9, q10, q11, q12, q13, rfl, hln, lk, hcd, ⟨ccl, cdd, vs, ccs, file, tf, lcode, hvs, hfile⟩, ⟨cl, cld, csl, lcell⟩⟩ := T.fn
  obtain ⟨n, q, N, bs, bm, sn, sub, ab, col, dd, k0, k1, k2, k3, k5, hC, hbm, hal⟩ := T.cls
  have hcl : clsIn K C = some { name := n, bases := bs, mro := .ref C :: bm, ns := N, qualname := q, hasDict := true, slotNames := sn, subclasses := sub, abstract := ab, collection := col, hasDel := false } := by unfold clsIn; rw [hC] <;> rfl
  have ns1 : (nm == ("self" : Str)) = false := by simpa using T.self
  have lself : (iS nm).names.lookup ("self" : Str) = some .local := rfl
  have lnm : (iS nm).names.lookup nm = some .local := by simp [iS, List.lookup, ns1]
  have ns2 : (("__class__" : Str) == nm) = false := by simpa using fun z => T.nmC z.symm
  have ns3 : (("super" : Str) == nm) = false := by simpa using fun z => T.nmS z.symm
  have lcl : (iS nm).names.lookup ("__class__" : Str) = some .free := by
    simp [iS, List.lookup, ns2, show (("__class__" : Str) == ("self" : Str)) = false by decide]
  have lsu : (iS nm).names.lookup ("super" : Str) = some .globalImplicit := by
    simp [iS, List.lookup, ns3, show (("super" : Str) == ("self" : Str)) = false by decide, show (("super" : Str) == ("__class__" : Str)) = false by decide]
  refine ks_codeAny_call_defAt (binds := [("self", .ref x), (nm, u)]) (body := iB nm fld txt j q1 q2 q3 q4 q5 q6 q7 q8 q9 q10 q11 q12 q13) hroom (X _ _ lk) rfl hlim (codeRec_of X hcd) rfl hbind (fun y hy => ?_) (fun y hy => ?_) (fun h₁ hns hk => ?_) rfl rfl rfl
  · have hy : y ∈ [(PySem.Str.ofString "self", NameKind.local), (nm, .local), (PySem.Str.ofString "__class__", .free), (PySem.Str.ofString "super", .globalImplicit)] := hy
    simp only [List.mem_cons, List.not_mem_nil, or_false] at hy
    rcases hy with rfl | rfl | rfl | rfl <;> (intro z; cases z)
  · rcases List.mem_cons.mp hy with rfl | hy
    · exact lself
    · rw [List.mem_singleton.mp hy]; exact lnm
  have X1 : K.In h₁ := X.keeps hk
  have hx1 := hk _ _ hx
  have vself : ([("self", Value.ref x), (nm, u)] : List (Str × Value)).reverse.lookup ("self" : Str) = some (.ref x) := by
    show (match ("self" : Str) == nm with | true => some u | false => _) = _
    rw [show (("self" : Str) == nm) = false by simpa using fun z => T.self z.symm]
    rfl
  have vnm : ([("self", Value.ref x), (nm, u)] : List (Str × Value)).reverse.lookup nm = some u := by
    show (match nm == nm with | true => some u | false => _) = _
    rw [show (nm == nm) = true by simp]
  have hxL : s.heap.objs.size ≠ x := Nat.ne_of_gt (Heap.lt_size hx)
  have hsu1 : (envX qual (iS nm) s.heap.objs.size fI (.ref cda) [("__class__", cc)]).kindOf "super" = some .globalImplicit := lsu
  have hcl1 : (envX qual (iS nm) s.heap.objs.size fI (.ref cda) [("__class__", cc)]).kindOf "__class__" = some .free := lcl
  show wpAt _ _ _ (execs _ (envX qual (iS nm) s.heap.objs.size fI (.ref cda) [("__class__", cc)])) _ _ _
  refine ks_wpAt_execs_cons (ks_wpAt_Expr_any (ks_wpAt_MethodCall (pl := do return (← importBound (.Call (.Name "super" q1) [] [] q2) (envX qual (iS nm) s.heap.objs.size fI (.ref cda) [("__class__", cc)])).getD true) ?_ ?_))
  rotate_left
  · rw [arm_eval_Call]
    unfold methodCall methodCallPos
    simp only [hln, Bool.or_true, if_true]
    rfl
  refine ks_wpAt_super_base (env := envX qual (iS nm) s.heap.objs.size fI (.ref cda) [("__class__", cc)]) hsu1 hcl1 (by decide) rfl (X1 _ _ lk) rfl rfl rfl (X1 _ _ lcode) rfl hvs hfile T.top ?_
  obtain ⟨mb, hmb, hbt⟩ := hm.blt
  have b1 : ∀ b o, base.get? b = some o → h₁.get? b = some o := fun b o e => hk b o (hb b o e)
  refine ks_loadName_global rfl hsu1 (loadGlobal_builtin (env := envX qual (iS nm) s.heap.objs.size fI (.ref cda) [("__class__", cc)]) (hm.glob.keeps b1) T.sup (hmb.keeps b1) ((hbt _ (by decide)).trans (by first | boot_by_name | rfl | kernel_rfl)) ⟨rfl, ?_⟩)
  refine wpAny_loadName_free rfl hcl1 rfl ⟨_, X1 _ _ lcell, rfl⟩ ?_
  refine wpAny_loadName_local rfl lself hns vself ?_
  refine ks_wpAny_isType_cls (X1 _ _ hC) rfl ⟨rfl, ?_⟩
  have mro_has : ∀ v : Value, (Value.ref C :: bm).contains v = true → mroIn K C v = some true := fun v hv => by
    unfold mroIn
    rw [hcl, Option.bind_some, if_neg (show ¬ (List.isEmpty (Value.ref C :: bm) = true) from Bool.false_ne_true), hv]
  refine ks_wpAny_call_super (X1 _ _ hC) rfl hx1 rfl (fun c z => by cases z) (looks_mroIn X1 (mro_has _ (by simp))) (fun h₂ hso k2 => ?_)
  have X2 : K.In h₂ := X1.keeps k2
  have hx2 := k2 _ _ hx1
  have hxC : x ≠ C := fun z => by
    rw [z] at hnx
    rw [hnx] at hC
    cases hC
  have I2 : InstAt h₂ x (excO C t0) C none := ⟨hx2, rfl, rfl, trivial⟩
  refine kxs_getMethod kxs_ValueError hso (looks_opaque X2 T.opq) (l₀ := .ref C :: bm) (l := bm) (fun A Q E s k q => wpAny_bind ((looks_clsIn X2 hcl) A _ E s k (wpAny_pure q))) (by simp [List.dropWhile_cons]) X2 hal
    (I2.type.andThen (looks_mroIn X2 (mro_has _ (by rw [List.contains_cons, refsVE_contains "ValueError" bm hbm, show veTail.contains (.type "ValueError") = true by decide +kernel, Bool.or_true])))) hxC (by decide) ?_
  have k3 : ∀ b o, h₁.get? b = some o → (h₂.push (kxs_mw "ValueError.__init__" x)).get? b = some o := fun b o e => Heap.get?_push_of_some _ (k2 b o e)
  have hu3 : (h₂.push (kxs_mw "ValueError.__init__" x)).get? h₂.objs.size = some (kxs_mw "ValueError.__init__" x) := Heap.get?_push_at rfl rfl
  have hns3 := hns.keeps k3
  show wpAny _ _ (callWith q8 (.ref h₂.objs.size) [] ((false, eval (.JoinedStr [.Constant (.str txt) j q4, .FormattedValue (.Name nm q5) (-1) none q6] q7) (envX qual (iS nm) s.heap.objs.size fI (.ref cda) [("__class__", cc)])) :: backTo q8 (starEach [] (envX qual (iS nm) s.heap.objs.size fI (.ref cda) [("__class__", cc)]))) []) _ _ _
  refine kxs_callWith (i := "ValueError.__init__") (x := x) rfl (evalArgs_plain ?_)
  refine Calls.spliced_cons (wpAny_JoinedStr ?_)
  refine wpAny_Constant_str ⟨txt, _, rfl, Nat.le_trans T.tsz (by decide), ?_⟩
  refine wpAny_FormattedValue_plain (wpAny_Name (wpAny_loadName_local rfl lnm hns3 vnm ?_) T.nmD)
  refine hfmt _ _ _ _ ?_ (fun b o e _ => k3 b o (hk b o e)) fun m v tk' hm => ⟨_, _, rfl, ?_, ?_, ?_⟩
  · show A.units + _ ≤ _
    omega
  · have := T.tsz
    rw [Str.length_append]
    exact Nat.le_trans (show _ ≤ 101000 by omega) (by decide)
  · have := T.tsz
    rw [Str.length_append]
    exact Nat.le_trans (show _ ≤ 101000 by omega) (by decide)
  refine Calls.spliced_nil ⟨hu3, ?_⟩
  have hu0 : s.heap.objs.size < h₂.objs.size := (hns.keeps k2).lt
  have gx : ∀ b o, b ≠ x → s.heap.get? b = some o → (hideAll s.heap [x]).get? b = some o := fun b o hb e => hideAll_get [x] e (by simpa using hb)
  have Fr3 : Fr (hideAll s.heap [x]) s.heap.objs.size (h₂.push (kxs_mw "ValueError.__init__" x)) (fun y => ([("self", Value.ref x), (nm, u)] : List (Str × Value)).reverse.lookup y) :=
    ⟨hns3, fun b o e => k3 b o (hk b o (of_hideAll [x] e)), by rw [hideAll_size]; exact Nat.le_refl _⟩
  have KX0 : K.In (hideAll s.heap [x]) := fun b o e => gx b o (fun z => by rw [z, hnx] at e; cases e) (X b o e)
  have gu : (hideAll s.heap [x]).get? h₂.objs.size = none := by
    cases q : (hideAll s.heap [x]).get? h₂.objs.size with
    | none => rfl
    | some o => exact absurd (Nat.lt_trans (Heap.lt_size (of_hideAll [x] q)) hu0) (Nat.lt_irrefl _)
  have N3 : News (hideAll s.heap [x]) s.heap.objs.size (h₂.push (kxs_mw "ValueError.__init__" x)) [(h₂.objs.size, kxs_mw "ValueError.__init__" x), (x, excObj C t0 none .none)] := by
    intro p hp
    rcases List.mem_cons.mp hp with rfl | hp
    · exact ⟨hu3, Nat.ne_of_gt hu0, gu⟩
    · rw [List.mem_singleton.mp hp]
      exact ⟨k3 _ _ hx1, hxL.symm, hideAll_none [x] (List.mem_singleton.mpr rfl)⟩
  refine kxs_call Fr3 KX0 N3 F.excBase_ValueError T.ini (List.mem_cons_self ..) (.tail (Nat.ne_of_gt (Heap.lt_size hx2)) (.head fun _ z => nomatch z)) (by show 1 ≤ sizeLine; decide) fun t1 h₄ F4 N4 _ => ?_
  have hx4 : h₄.get? x = some (excO C t1) := (N4 (x, excObj C t1 none .none) (by simp)).1
  have old : ∀ b o, b ≠ x → s.heap.get? b = some o → h₄.get? b = some o := fun b o hb e => F4.keep b o (gx b o hb e)
  have X4 : K.In h₄ := KX0.keeps F4.keep
  have hns4 := F4.ns
  refine wpAt_of_wpAny (wpAny_execs_cons (plainObj_wpAny_Assign_Attribute ?_))
  refine wpAny_Name (wpAny_loadName_local rfl lnm hns4 vnm ?_) T.nmD
  refine wpAny_Name (wpAny_loadName_local rfl lself hns4 vself ?_) (by decide)
  refine set_plain X4 (ox := excO C t1) (od := none) ⟨hx4, rfl, rfl, trivial⟩ T.sa ?_
  refine exc_osa X4 hx4 hcl (show refsVE (.ref C :: bm) = true from hbm) rfl T.noN (fun h₅ tk₅ dx k5 dn dne hx₅ hn₅ => ?_)
  refine wpAny_execs_nil (hq h₅ tk₅ dx t1 ⟨fun b o hb e => k5 b o hb (old b o hb e), hx₅, ?_, dne, hn₅⟩)
  have z : s.heap.objs.size < h₄.objs.size := hns4.lt
  exact Nat.le_of_lt (Nat.lt_of_lt_of_le z dn)
end
end XIn
end PySem
namespace L2
open PySem PySem.Spec PyProof.Rows
/-- the sequence's value is told -/
def spIniT (C : Addr) (fld : Str) : Sp := fun vs H Q _ => ∃ (a ta : Addr) (is : List Int), vs = [.ref a, .ref ta] ∧ H a = some (exo a C none) ∧ H ta = some (.tup (is.map V.int)) ∧ (∀ i ∈ is, i = 0 ∨ i = 1) ∧ is.length ≤ 1000 ∧ ∀ dx, H dx = none → dx ≠ a → Q .non (upd (upd H a (exo a C (some dx))) dx (exd dx [(fld, .ref ta)]))
theorem tup_at {P : Program} {w : World} {H : Hp} {h : Heap} {a : Addr} {xs : List V} (hok : HOk P w H h) (ha : H a = some (.tup xs)) : ∃ its : List Value, Vals xs its ∧ IsTup h a its.toArray ∧ xs.length ≤ sizeLine := by
  obtain ⟨z, its, r, p⟩ := (show ObjOk P w H h a (.tup xs) from hok a _ ha)
  exact ⟨its, r, p, z⟩
theorem repr_bits {prog : Program} {w : World} : ∀ {is : List Int} {its : List Value}, Vals (is.map V.int) its → (∀ i ∈ is, i = 0 ∨ i = 1) → ReprAll prog w its (is.map fun i => (toString i : Str))
  | [], _, r, _ => by
    cases r
    exact .nil
  | i :: is, _, r, h => by
    cases r with
    | cons r1 r2 =>
      obtain ⟨t, rfl⟩ := r1
      refine .cons (ReprIs.int t ?_) (repr_bits r2 fun j hj => h j (List.mem_cons_of_mem _ hj))
      rcases h i (List.mem_cons_self ..) with rfl | rfl <;> decide
theorem piled_bits : ∀ {is : List Int}, (∀ i ∈ is, i = 0 ∨ i = 1) → piled (is.map fun i => (toString i : Str)) ≤ 3 * is.length
  | [], _ => Nat.le_refl _
  | i :: is, h => by
    have ih := piled_bits fun j hj => h j (List.mem_cons_of_mem _ hj)
    rw [List.map_cons, piled_cons, List.length_cons]
    have : ((toString i : String) : Str).length ≤ 1 := by
      rcases h i (List.mem_cons_self ..) with rfl | rfl <;> decide +kernel
    omega
theorem fmt_bits {prog : Program} {w : World} {A : Around} {E : Value → Shared → Prop} {s0 s : Shared} {ta a : Addr} {is : List Int} {its : List Value} {Q : Value → Shared → Prop} (rv : Vals (is.map V.int) its) (hT : IsTup s0.heap ta its.toArray) (h01 : ∀ i ∈ is, i = 0 ∨ i = 1) (hl : is.length ≤ 1000) (hu : A.units + 2 < cLine) (hk : ∀ b o, s0.heap.get? b = some o → b ≠ a → s.heap.get? b = some o) (hne : ta ≠ a)
    (h : ∀ (m : Str) (v tk' : Tok), m.length ≤ 100000 → Q (.str m v) { s with toks := tk' }) : wpAny (model prog w) A (formatField (.ref ta) Str.empty) Q E s := by
  obtain ⟨o, ho, hc, n, hd⟩ := hT
  have hp := piled_bits h01
  have hx := fmt_text (is.map fun i => (toString i : Str))
  refine fmt_tuple (ts := is.map fun i => (toString i : Str)) hu (hk _ _ ho hne) hc hd (by simpa using repr_bits rv h01) (Nat.le_trans (show _ ≤ 100000 by omega) (by decide)) fun m u tk hm => h m u tk (by omega)
theorem fn_initT {P : Program} {w : World} {K : PySem.W.Frag} {mg : Str → Option Value} {base : Heap} {C fI : Addr} {fd : FuncData} {nm fld txt : Str} (T : PySem.XIn.OwnI P K mg C fI fd nm fld txt) : FnOk P w K mg base CX0 1 fI fd ["self", nm] (spIniT C fld) := by
  refine ⟨fun vs H Q E ⟨a, i, is, e, _⟩ => by rw [e]; rfl, fun A outer s H args us vs Q E hr e0 hbind rv ⟨a, i, is, e, ha, ht, his, hlen, q⟩ => ?_⟩
  subst e
  cases rv with
  | @cons _ u0 _ ur ra rv =>
  cases rv with
  | @cons _ u1 _ ur1 rb rv =>
  cases rv
  obtain rfl : u0 = Value.ref a := ra
  obtain rfl : u1 = Value.ref i := rb
  obtain ⟨its, rv, hT, hz⟩ := tup_at e0.hok ht
  have hai : i ≠ a := fun z => by rw [z, ha] at ht; cases ht
  obtain ⟨t1, hx⟩ := exo_at e0.hok ha
  have KX : K.In s.heap := e0.mod.kin.keeps fun b o e => (e0.bs b o e).1
  have hnx : K.lookup a = none := by
    cases e : K.lookup a with
    | none => rfl
    | some o =>
      have := (e0.bs a o (e0.mod.kin _ _ e)).2
      rw [ha] at this
      cases this
  obtain ⟨hp, g, dr, tk0, os⟩ := s
  refine PySem.XIn.init_runT T KX e0.mod (fun b o e => (e0.bs b o e).1) (e0.mod.nolimit.keeps fun b o e => (e0.bs b o e).1) hx hnx hr.depth (by simpa using hbind) (by have := hr.un; omega) (fun A' E' s' Q hA hk hQ => ?_) fun h' tk' dx t2 IE => ?_
  · exact fmt_bits rv hT his hlen (by have := hr.un; omega) (fun b o e hb => hk b o e hb) hai hQ
  have hnd : H dx = none := e0.hok.fresh IE.dbig
  -- the heap between: x has its dict's name, the dict itself is not laid yet
  have gk : ∀ b, b ≠ dx → ∀ o, h'.get? b = some o → (PySem.W.hideAll h' [dx]).get? b = some o := fun b hb o e => PySem.W.hideAll_get [dx] e (by simpa using hb)
  have back : ∀ b o, (PySem.W.hideAll h' [dx]).get? b = some o → h'.get? b = some o := fun b o => PySem.W.of_hideAll [dx]
  have mid : ∀ b o, b ≠ a → hp.get? b = some o → (PySem.W.hideAll h' [dx]).get? b = some o := fun b o hb e => gk b (Nat.ne_of_lt (Nat.lt_of_lt_of_le (Heap.lt_size e) IE.dbig)) o (IE.keep b o hb e)
  have xm := gk a (Ne.symm IE.dne) _ IE.obj
  have mu : Mut (H a) := by
    rw [ha]
    exact True.intro
  have U1 : Un (frs outer) [] H (upd H a (exo a C (some dx))) hp (PySem.W.hideAll h' [dx]) := Un.write mu (.inl rfl) mid ⟨_, xm⟩
  have O1 : HOk P w (upd H a (exo a C (some dx))) (PySem.W.hideAll h' [dx]) := e0.hok.write mu (.inl rfl) mid ⟨_, xm⟩ (exo_ok xm)
  have n1 : upd H a (exo a C (some dx)) dx = none := by
    rw [upd_ne IE.dne]
    exact hnd
  have new : ObjOk P w (upd (upd H a (exo a C (some dx))) dx (exd dx [(fld, .ref i)])) h' dx (exd dx [(fld, .ref i)]) := exd_ok IE.ns (relO_put (fs := []) (show RelV (.ref i) (.ref i) from rfl) fun g => True.intro)
  exact ⟨.non, _, rfl, e0.bare, U1.trans (Un.laidN back (PySem.W.hideAll_none [dx] (List.mem_singleton.mpr rfl)) n1), O1.laidN back n1 new, rfl, q dx hnd IE.dne⟩
end L2

/-! raise C(way), way a tuple of noughts and ones -/
namespace Dv
open PySem PySem.Spec L2
open PyProof.Rows hiding St
section
variable {K : PySem.W.Frag} {T : List (Addr × Str)} {W W2 : Wd K T} {G : Ctx} {X : Xd → Prop}
theorem bits_of {H : Hp} : ∀ {is : List Int} {xs : List V}, DAll W H xs (is.map PyData.int) → xs = is.map V.int
  | [], _, .nil => rfl
  | i :: r, _, .cons a t => by rw [a.int_inv, bits_of t]; rfl
theorem mx_iniT {C : Addr} {fld : Str} {tr : TA} {is : List Int} (h : EA K T tr G (· = [.dat (.tuple (is.map .int))])) (h01 : ∀ i ∈ is, i = 0 ∨ i = 1) (hl : is.length ≤ 1000) (hx : X ⟨C, some [(fld, .tuple (is.map .int))]⟩) : MX K T (tMkO C (spIniT C fld) [] tr) G X := fun W σ H s j Q q => h W σ H s j _ fun vs os H1 e1 j1 dv p => by
  subst p
  cases dv with
  | @cons v _ _ _ r1 rn =>
  cases rn
  cases r1 with
  | dat r1 =>
  obtain ⟨ta, xs, rfl, nt, ht, al⟩ := r1.tup_inv
  obtain rfl := bits_of al
  refine ⟨by show 1 ≤ 1000; decide, fun a na => ?_⟩
  have ta_a : ta ≠ a := fun z => by rw [z, na] at ht; cases ht
  refine ⟨a, ta, is, rfl, upd_same, by rw [upd_ne ta_a]; exact ht, h01, hl, fun dx nd ne => ⟨rfl, dx, [(fld, .ref ta)], ?_, upd_same, ?_, ?_⟩⟩
  · rw [upd_ne (Ne.symm ne), upd_same]
  · rw [upd_ne ne] at nd
    exact nd
  · have n1 : H1 dx = none := by
      rw [upd_ne ne] at nd
      exact nd
    have eq : upd (del (upd (upd (upd H1 a (exo a C none)) a (exo a C (some dx))) dx (exd dx [(fld, .ref ta)])) a) dx (.xd [(fld, .ref ta)]) = upd H1 dx (.xd [(fld, .ref ta)]) := by
      funext b
      by_cases hb : b = dx
      · rw [hb, upd_same, upd_same]
      · rw [upd_ne hb, upd_ne hb]
        by_cases ha : b = a
        · rw [ha, del_same, na]
        · rw [del_ne ha, upd_ne hb, upd_ne ha, upd_ne ha]
    rw [eq]
    exact q _ _ _ _ (e1.trans (.new n1)) (j_new j1 n1) (.wth (new_ne j1 n1) upd_same (.cons ⟨rfl, r1.mono (.new n1)⟩ .nil)) hx
end
end Dv

/-! a list and a dict of tuples, set aside -/
namespace Dv
open PySem PySem.Spec L2 LamX LamD
open PyProof.Rows hiding St
structure RS where
  (ys : List V) (pl : List PyData) (kvs : List (List Key × V))
section
variable {K : PySem.W.Frag} {T : List (Addr × Str)} {W : Wd K T} {p1 p2 : Addr} {h1 : ¬ W.X p1} {h2 : ¬ (W.X p2 ∨ p2 = p1)}
def RTW (W : Wd K T) (p1 p2 : Addr) (h1 : ¬ W.X p1) (h2 : ¬ (W.X p2 ∨ p2 = p1)) (c : RS) : Wd K T := (W.aside p1 h1 (.lst c.ys) (plain_lst _)).aside p2 h2 (.dT c.kvs) (plain_dT _)
def RTF (W : Wd K T) (p1 p2 : Addr) (h1 : ¬ W.X p1) (h2 : ¬ (W.X p2 ∨ p2 = p1)) : Fam K T RS := ⟨fun c => RTW W p1 p2 h1 h2 c, fun c H => DAll (RTW W p1 p2 h1 h2 c) H c.ys c.pl, fun _ _ => rfl, fun _ _ _ => Iff.rfl, fun n e => n.mono e⟩
section
variable {c : RS} {H : Hp}
theorem rt_at (j : (RTW W p1 p2 h1 h2 c).J H) : H p1 = some (.lst c.ys) ∧ H p2 = some (.dT c.kvs) ∧ p1 ≠ p2 := by
  have ne : p1 ≠ p2 := fun z => h2 (.inr z.symm)
  refine ⟨?_, j.2, ne⟩
  have z := j.1.2
  rwa [del_ne ne] at z
theorem rt_put1 {ys : List V} {pl : List PyData} (j : (RTW W p1 p2 h1 h2 c).J H) : (RTW W p1 p2 h1 h2 ⟨ys, pl, c.kvs⟩).J (upd H p1 (.lst ys)) ∧ Ex (RTW W p1 p2 h1 h2 c) H (upd H p1 (.lst ys)) := by
  have ne : p1 ≠ p2 := (rt_at j).2.2
  refine ⟨⟨?_, by rw [upd_ne (Ne.symm ne)]; exact j.2⟩, Ex.out (.refl _) (.inl (.inr rfl))⟩
  rw [del_upd ne]
  exact (aside_put (o' := .lst ys) (ho' := plain_lst _) j.1).1
theorem rt_put2 {kvs : List (List Key × V)} (j : (RTW W p1 p2 h1 h2 c).J H) : (RTW W p1 p2 h1 h2 ⟨c.ys, c.pl, kvs⟩).J (upd H p2 (.dT kvs)) ∧ Ex (RTW W p1 p2 h1 h2 c) H (upd H p2 (.dT kvs)) :=
  ⟨(aside_put (o' := .dT kvs) (ho' := plain_dT _) j).1, Ex.out (.refl _) (.inr rfl)⟩
end
variable {Ech : XK} {En : EndF RS} {c : RS} {G : Ctx}
/-- while places: .. -/
theorem tf_lst {K' : PySem.W.Frag} {i : Nat} (hi : G[i]? = some (some (.fn p1))) : TF (RTF W p1 p2 h1 h2) (tTru K' (tVar i)) c G (!c.ys.isEmpty) := fun σ H s j n Q q => by
  obtain ⟨v, hv, h⟩ := s.at_ i _ hi
  cases h
  exact ⟨.ref p1, hv, _, .inl ⟨c.ys, SqL.of (rt_at (W := W) (h1 := h1) (h2 := h2) j).1, rfl⟩, q H (.refl H) j⟩
/-- places.append(e) -/
theorem sf_push {K' : PySem.W.Frag} {i : Nat} {te : TE} {P : PyData → Prop} (hi : G[i]? = some (some (.fn p1))) (he : E K T te G P) (hl : c.ys.length < 100000) (k : ∀ y d, P d → En.nx ⟨c.ys ++ [y], c.pl ++ [d], c.kvs⟩ G) : SF (RTF W p1 p2 h1 h2) Ech (tDrop (tBM K' "list" rAppend (tVar i) (tCons te tNil))) c G En := fun D' σ H s j n o => by
  have j : (RTW W p1 p2 h1 h2 c).J H := j
  obtain ⟨v, hv, h⟩ := s.at_ i _ hi
  cases h
  refine ⟨.ref p1, hv, Or.inl ⟨rfl, c.ys, SqL.of (rt_at j).1⟩, he (RTW W p1 p2 h1 h2 c) σ H s j _ fun y d H1 e1 j1 dy pd => ?_⟩
  obtain ⟨j2, e2⟩ := rt_put1 (ys := c.ys ++ [y]) (pl := c.pl ++ [d]) j1
  have e12 := e1.trans e2
  refine ⟨p1, c.ys, y, rfl, rfl, (rt_at j1).1, Nat.lt_trans hl (by decide), ?_⟩
  have n2 : DAll (RTW W p1 p2 h1 h2 c) (upd H1 p1 (.lst (c.ys ++ [y]))) (c.ys ++ [y]) (c.pl ++ [d]) := ((show DAll (RTW W p1 p2 h1 h2 c) H c.ys c.pl from n).mono e12).append (.one (dy.mono e2))
  exact o.nx _ _ ⟨c.ys ++ [y], c.pl ++ [d], c.kvs⟩ G e12 j2 (DAll.to (W := RTW W p1 p2 h1 h2 c) (W2 := RTW W p1 p2 h1 h2 ⟨c.ys ++ [y], c.pl ++ [d], c.kvs⟩) (fun _ _ _ z => z) n2) (Sl.to (W := RTW W p1 p2 h1 h2 c) (fun _ _ _ z => z) rfl (s.mono e12)) (k y d pd)
/-- a, b, c = places.pop() -/
theorem sf_pop {K' : PySem.W.Frag} {i : Nat} {g : TG} {vs : List Nat} {ys : List V} {pl : List PyData} {y : V} {d : PyData} (hi : G[i]? = some (some (.fn p1))) (hc : c.ys = ys ++ [y]) (hd : c.pl = pl ++ [d]) (k : ∃ G', Tg K T g vs d G G' ∧ En.nx ⟨ys, pl, c.kvs⟩ G') : SF (RTF W p1 p2 h1 h2) Ech (tAsg (tBM K' "list" rPop (tVar i) tNil) g) c G En := fun D' σ H s j n o => by
  have j : (RTW W p1 p2 h1 h2 c).J H := j
  obtain ⟨v, hv, h⟩ := s.at_ i _ hi
  cases h
  obtain ⟨G', tg, k⟩ := k
  have hp := (rt_at j).1
  obtain ⟨j2, e2⟩ := rt_put1 (ys := ys) (pl := pl) j
  refine ⟨.ref p1, hv, Or.inl ⟨rfl, c.ys, SqL.of hp⟩, p1, c.ys, y, rfl, rfl, hp, by rw [hc]; simp, ?_⟩
  rw [show c.ys.dropLast = ys by rw [hc]; simp]
  have n2 : DAll (RTW W p1 p2 h1 h2 c) (upd H p1 (.lst ys)) (ys ++ [y]) (pl ++ [d]) := by
    have z := (show DAll (RTW W p1 p2 h1 h2 c) H c.ys c.pl from n).mono e2
    rwa [hc, hd] at z
  have hl : ys.length = pl.length := by have := n2.length; simpa using this
  have n3 : DAll (RTW W p1 p2 h1 h2 c) (upd H p1 (.lst ys)) ys pl := by
    have z := n2.take ys.length
    rwa [List.take_left, hl, List.take_left] at z
  have dy : D (RTW W p1 p2 h1 h2 c) (upd H p1 (.lst ys)) y d := by
    have z := n2.drop ys.length
    rw [List.drop_left, hl, List.drop_left] at z
    cases z with
    | cons a _ => exact a
  have s2 : Sl (RTW W p1 p2 h1 h2 ⟨ys, pl, c.kvs⟩) (upd H p1 (.lst ys)) σ G := Sl.to (W := RTW W p1 p2 h1 h2 c) (fun _ _ _ z => z) rfl (s.mono e2)
  exact tg (RTW W p1 p2 h1 h2 ⟨ys, pl, c.kvs⟩) σ _ y s2 (D.to (W := RTW W p1 p2 h1 h2 c) (W2 := RTW W p1 p2 h1 h2 ⟨ys, pl, c.kvs⟩) (fun _ _ _ z => z) dy) _ fun σ' s' _ _ => o.nx σ' _ ⟨ys, pl, c.kvs⟩ G' e2 j2 (DAll.to (W := RTW W p1 p2 h1 h2 c) (W2 := RTW W p1 p2 h1 h2 ⟨ys, pl, c.kvs⟩) (fun _ _ _ z => z) n3) s' k
/-- counts[e] = n -/
theorem sf_put {i : Nat} {ti tv : TE} {js : List Int} {m : Int} (hi : G[i]? = some (some (.fn p2))) (hk : E K T ti G (· = .tuple (js.map .int))) (hv : E K T tv G (· = .int m)) (hl : c.kvs.length < 100000) (k : En.nx ⟨c.ys, c.pl, putK c.kvs (js.map Sum.inl) (.int m)⟩ G) : SF (RTF W p1 p2 h1 h2) Ech (sDPut (tVar i) ti tv) c G En := fun D' σ H s j n o => by
  have j : (RTW W p1 p2 h1 h2 c).J H := j
  refine hv (RTW W p1 p2 h1 h2 c) σ H s j _ fun v d H1 e1 j1 dv ev => ?_
  subst ev
  obtain rfl := dv.int_inv
  obtain ⟨u, hu, h⟩ := s.at_ i _ hi
  cases h
  refine ⟨.ref p2, hu, hk (RTW W p1 p2 h1 h2 c) σ H1 (s.mono e1) j1 _ fun y d H2 e2 j2 dy ey => ?_⟩
  subst ey
  obtain ⟨b, xs, rfl, nb, hb, al⟩ := dy.tup_inv
  have hx : xs = js.map V.int := bits_of al
  obtain ⟨j3, e3⟩ := rt_put2 (kvs := putK c.kvs (js.map Sum.inl) (.int m)) j2
  refine ⟨p2, _, rfl, DPut.t (k := js.map Sum.inl) (rt_at j2).2.1 (by rw [hb, hx, List.map_map]; rfl) (Nat.lt_trans hl (by decide)), ?_⟩
  have e13 := (e1.trans e2).trans e3
  exact o.nx σ _ ⟨c.ys, c.pl, putK c.kvs (js.map Sum.inl) (.int m)⟩ G e13 j3 (DAll.to (W := RTW W p1 p2 h1 h2 c) (W2 := RTW W p1 p2 h1 h2 ⟨c.ys, c.pl, putK c.kvs (js.map Sum.inl) (.int m)⟩) (fun _ _ _ z => z) ((show DAll (RTW W p1 p2 h1 h2 c) H c.ys c.pl from n).mono e13)) (Sl.to (W := RTW W p1 p2 h1 h2 c) (fun _ _ _ z => z) rfl (s.mono e13)) k
end
end Dv

namespace K17
open PySem PySem.Spec L2 Dv DvC
open PyProof.Rows hiding St
def top (i : Nat) : Stmt := PySem.Challenge.pw_probelots_k17_whole_other_numbers_of_thi.main.body.getD i (.Pass ⟨0, 0, 0, 0⟩)
abbrev s_is_within : Stmt := top 20
abbrev s_is_lot : Stmt := top 21
abbrev s_is_probe : Stmt := top 22
abbrev s_is_answer : Stmt := top 23
abbrev s_is_chance : Stmt := top 24
abbrev s_check_plan : Stmt := top 25
abbrev s_check_lot : Stmt := top 26
abbrev s_first_wrong : Stmt := top 27
abbrev s_check_answers : Stmt := top 28
abbrev s_check_chances : Stmt := top 29
abbrev s_check_count : Stmt := top 30
abbrev s_check_most : Stmt := top 31
abbrev s_check_slips : Stmt := top 32
abbrev s_lots_up_to : Stmt := top 34
abbrev s_answer_of : Stmt := top 35
abbrev s_answers_of : Stmt := top 36
abbrev s_slips_in : Stmt := top 37
abbrev s_could : Stmt := top 39
abbrev s_sure : Stmt := top 40
abbrev s_how_many_have : Stmt := top 41
abbrev s_kinds : Stmt := top 42
abbrev s_how_many_unlike : Stmt := top 43
abbrev s_idle : Stmt := top 44
abbrev s_without : Stmt := top 45
abbrev s_shares : Stmt := top 47
abbrev s_each : Stmt := top 48
abbrev s_checked_weights : Stmt := top 49
abbrev s_weights : Stmt := top 50
abbrev s_lot_weight : Stmt := top 51
abbrev s_told_weight : Stmt := top 52
abbrev s_sum_of : Stmt := top 53
abbrev s_fraction : Stmt := top 54
abbrev s_answers : Stmt := top 56
abbrev s_beside : Stmt := top 57
abbrev s_moved : Stmt := top 58
abbrev s__law_row : Stmt := top 60
abbrev s__law_taken : Stmt := top 61
abbrev s__law_lot : Stmt := top 62
abbrev s__law_plan : Stmt := top 63
abbrev s__law_answers : Stmt := top 64
abbrev s__law_said : Stmt := top 65
abbrev s__law_chances : Stmt := top 66
abbrev s__law_moved : Stmt := top 67
abbrev s__law_word : Stmt := top 68
abbrev s_law : Stmt := top 69
/-- the names that the top leaves to the built-ins, and its constants -/
structure Txt (mg : Str → Option Value) : Prop where
  len : mg "len" = none
  any : mg "any" = none
  sum : mg "sum" = none
  isinstance : mg "isinstance" = none
  tuple : mg "tuple" = none
  list : mg "list" = none
  int : mg "int" = none
  bool : mg "bool" = none
  str : mg "str" = none
  range : mg "range" = none
  enumerate : mg "enumerate" = none
  zip : mg "zip" = none
  sorted : mg "sorted" = none
  MOST_THINGS : ∃ t, mg "MOST_THINGS" = some (.int 10 t)
  MOST_PROBES : ∃ t, mg "MOST_PROBES" = some (.int 16 t)
  MOST_BAD : ∃ t, mg "MOST_BAD" = some (.int 3 t)
  MOST_SLIPS : ∃ t, mg "MOST_SLIPS" = some (.int 16 t)
  HUNDRED : ∃ t, mg "HUNDRED" = some (.int 100 t)
section
variable {P : Program} {w : World} {K : PySem.W.Frag} {mg : Str → Option Value} {base : Heap} {T : List (Addr × Str)}
theorem sc_is_within : FnScope ["value", "low", "high"] ["value", "low", "high"] (defScope s_is_within) := ⟨rfl, rfl, rfl, by decide +kernel, rfl, by decide +kernel, by decide +kernel⟩
def withinD : PyData → Int → Int → Bool
  | .int i, lo, hi => decide (lo ≤ i) && decide (i ≤ hi)
  | _, _, _ => false
def F_within : List PyData → PyData
  | [d, .int lo, .int hi] => .bool (withinD d lo hi)
  | _ => .none
abbrev sp_within (K : PySem.W.Frag) (T : List (Addr × Str)) : Sp := spD K T (fun ds => ∃ d lo hi, ds = [d, .int lo, .int hi]) F_within
theorem ok_is_within {f : Addr} {fd : FuncData} (Fn : Fun K "is_within" "is_within" s_is_within f fd) (X : Txt mg) : FnOk P w K mg base CX0 1 f fd ["value", "low", "high"] (sp_within K T) := by
  refine ok_defD Fn sc_is_within (fun ds ⟨_, _, _, e⟩ => by rw [e]; rfl) fun cdv A outer s H E' hr => ?_
  refine ⟨_, (pss_cons (ps_if (PW.pt (pw_or (pt_not (pt_val (pe_callB call_isi (by rfl) X.isinstance bt_isinstance (pa_cons (pv 0) (pa_cons (pe_bltn (v := .ty "int") (by rfl) X.int bt_int rfl) pa_nil))))) (pw_or1 (pt_val (pe_callB call_isi (by rfl) X.isinstance bt_isinstance (pa_cons (pv 0) (pa_cons (pe_bltn (v := .ty "bool") (by rfl) X.bool bt_bool rfl) pa_nil))))))) (pss_one (ps_ret pe_bl)) pss_nil)
  (pss_one (ps_ret (pe_chain op_le op_le (pv 1) (pv 0) (pv 2))))), ?_⟩
  rintro ds ⟨d, lo, hi, rfl⟩
  refine s_seq (s_if (t_or (t_not (t_B (e_isi e_var (kb_int d)))) fun _ => t_B (e_isi e_var (kb_bool d))) (fun h => s_ret e_bl ?_) (fun h => ?_))
  · cases d <;> first | rfl | cases h
  · cases d <;> first | (exact s_next (s_ret (e_chain e_var e_var e_var) rfl)) | cases h
theorem sc_is_lot : FnScope ["value", "things", "least", "thing"] ["value", "things"] (defScope s_is_lot) := ⟨rfl, rfl, rfl, by decide +kernel, rfl, by decide +kernel, by decide +kernel⟩
def lotGo (n : Int) : Int → List PyData → Bool
  | _, [] => true
  | l, .int i :: r => (decide (l ≤ i) && decide (i ≤ n - 1)) && lotGo n (i + 1) r
  | _, _ :: _ => false
def isLotD (n : Int) : PyData → Bool
  | .tuple xs => lotGo n 0 xs
  | _ => false
def F_is_lot : List PyData → PyData
  | [v, .int n] => .bool (isLotD n v)
  | _ => .none
abbrev sp_is_lot (K : PySem.W.Frag) (T : List (Addr × Str)) : Sp := spD K T (fun ds => ∃ v n, ds = [v, .int n]) F_is_lot
theorem ok_is_lot {f f1 : Addr} {fd fd1 : FuncData} (Fn : Fun K "is_lot" "is_lot" s_is_lot f fd) (X : Txt mg) (F1 : FnOk P w K mg base CX0 1 f1 fd1 ["value", "low", "high"] (sp_within K T)) (k1 : PySem.W.keepIn K (.ref f1) = true) (b1 : Binds K fd1 ["value", "low", "high"] []) (m1 : mg "is_within" = some (.ref f1)) :
    FnOk P w K mg base CX0 2 f fd ["value", "things"] (sp_is_lot K T) := by
  refine ok_defD Fn sc_is_lot (fun ds ⟨_, _, e⟩ => by rw [e]; rfl) fun cdv A outer s H E' hr => ?_
  refine ⟨_, (pss_cons (ps_if (pt_not (pt_val (pe_callB call_isi (by rfl) X.isinstance bt_isinstance (pa_cons (pv 0) (pa_cons (pe_bltn (v := .ty "tuple") (by rfl) X.tuple bt_tuple rfl) pa_nil))))) (pss_one (ps_ret pe_bl)) pss_nil)
  (pss_cons (ps_set (i := 2) sc_is_lot.nd rfl (by first | exact Or.inl rfl | exact Or.inr rfl) pe_int)
  (pss_cons (ps_for PassesOwn.never rfl (pi_tup (pv 0)) (pg_name (i := 3) sc_is_lot.nd rfl (by first | exact Or.inl rfl | exact Or.inr rfl)) (pss_cons (ps_if (pt_not (pt_val (pe_call F1 hr (by rfl) m1 k1 b1 .nil pass0 (pa_cons (pv 3) (pa_cons (pv 2) (pa_cons (pe_op op_sub (pv 1) pe_int) pa_nil)))))) (pss_one (ps_ret pe_bl)) pss_nil)
  (pss_one (ps_set (i := 2) sc_is_lot.nd rfl (by first | exact Or.inl rfl | exact Or.inr rfl) (pe_op op_add (pv 3) pe_int)))))
  (pss_one (ps_ret pe_bl))))), ?_⟩
  rintro ds ⟨v, n, rfl⟩
  refine s_seq (s_if (t_not (t_B (e_isi e_var (kb_tup v)))) (fun h => s_ret e_bl ?_) (fun h => ?_))
  · cases v <;> first | rfl | cases h
  · obtain ⟨xs, rfl⟩ : ∃ xs, v = .tuple xs := by cases v <;> first | exact ⟨_, rfl⟩ | cases h
    refine s_next (s_seq (s_asg e_int (s_seq ?_)))
    refine s_for (vs := [3]) (fun i G' => ∃ l x, G' = [some (.dat (.tuple xs)), some (.dat (.int n)), some (.dat (.int l)), x] ∧ lotGo n l (xs.drop i) = lotGo n 0 xs) (i_tup e_var) ⟨0, none, rfl, rfl⟩ ?_ ?_
    · rintro i d G' hi hd ⟨l, x, rfl, hl⟩
      refine ⟨_, tg_name (by decide), ?_⟩
      have ed : xs.drop i = d :: xs.drop (i + 1) := by
        obtain ⟨h1, h2⟩ := List.getElem?_eq_some_iff.mp hd
        rw [← h2]
        exact List.drop_eq_getElem_cons h1
      rw [ed] at hl
      refine s_seq (s_if (t_not (t_B (b := withinD d l (n - 1)) (E.is (e_callD (F := F_within) (ds := [d, .int l, .int (n - 1)]) (a_cons e_var (a_cons e_var (a_cons (e_sub e_var e_int) a_nil))) ⟨d, l, n - 1, rfl⟩) rfl))) (fun h => s_ret e_bl ?_) (fun h => s_next ?_))
      · show PyData.bool false = PyData.bool (lotGo n 0 xs)
        rw [← hl]
        cases d <;> first | rfl | (rename_i j; have h' : withinD (.int j) l (n - 1) = false := by simpa using h
                                   show PyData.bool false = PyData.bool (withinD (.int j) l (n - 1) && lotGo n (j + 1) (xs.drop (i + 1))); rw [h', Bool.false_and])
      · cases d <;> first
          | (rename_i j
             have h' : withinD (.int j) l (n - 1) = true := by simpa using h
             refine s_asg (e_add e_var e_int) ⟨j + 1, some (.dat (.int j)), rfl, ?_⟩
             rw [← hl]
             show _ = (withinD (.int j) l (n - 1) && lotGo n (j + 1) (xs.drop (i + 1)))
             rw [h', Bool.true_and])
          | (exact absurd (show true = false from h) (by decide))
    · rintro G' ⟨l, x, rfl, hl⟩
      refine s_ret e_bl ?_
      show PyData.bool true = PyData.bool (lotGo n 0 xs)
      rw [← hl, List.drop_length]
      rfl
theorem sc_is_probe : FnScope ["value", "things"] ["value", "things"] (defScope s_is_probe) := ⟨rfl, rfl, rfl, by decide +kernel, rfl, by decide +kernel, by decide +kernel⟩
def isProbeD (n : Int) : PyData → Bool
  | .tuple xs => lotGo n 0 xs && decide ((0 : Int) < xs.length)
  | _ => false
def F_is_probe : List PyData → PyData
  | [v, .int n] => .bool (isProbeD n v)
  | _ => .none
abbrev sp_is_probe (K : PySem.W.Frag) (T : List (Addr × Str)) : Sp := spD K T (fun ds => ∃ v n, ds = [v, .int n]) F_is_probe
theorem ok_is_probe {f f1 : Addr} {fd fd1 : FuncData} (Fn : Fun K "is_probe" "is_probe" s_is_probe f fd) (X : Txt mg) (F1 : FnOk P w K mg base CX0 2 f1 fd1 ["value", "things"] (sp_is_lot K T)) (k1 : PySem.W.keepIn K (.ref f1) = true) (b1 : Binds K fd1 ["value", "things"] []) (m1 : mg "is_lot" = some (.ref f1)) :
    FnOk P w K mg base CX0 3 f fd ["value", "things"] (sp_is_probe K T) := by
  refine ok_defD Fn sc_is_probe (fun ds ⟨_, _, e⟩ => by rw [e]; rfl) fun cdv A outer s H E' hr => ?_
  refine ⟨_, (pss_one (ps_ret (pe_and (pe_call F1 hr (by rfl) m1 k1 b1 .nil pass0 (pa_cons (pv 0) (pa_cons (pv 1) pa_nil))) (pe_one (pe_cmpR op_gt (pe_callB call_len_seq (by rfl) X.len bt_len (pa_cons (pv 0) pa_nil)) pe_int (nomark _)))))), ?_⟩
  rintro ds ⟨v, n, rfl⟩
  have call := e_callD (K := K) (T := T) (G := [some (.dat v), some (.dat (.int n))]) (Ex' := E0) (pre := fun ds => ∃ v n, ds = [v, .int n]) (F := F_is_lot) (a_cons (e_var (i := 0)) (a_cons (e_var (i := 1)) a_nil)) (ds := [v, .int n]) ⟨v, n, rfl⟩
  cases v with
  | tuple xs => exact s_ret (e_andV (b := decide ((0 : Int) < xs.length)) call fun _ => e_cmp (f := fun i j => decide (j < i)) (e_len (a_cons e_var a_nil) (.inr rfl)) e_int) rfl
  | _ => exact s_ret (e_andV (a := false) (b := false) call fun h => by cases h) rfl
theorem sc_answer_of : FnScope ["probe", "lot", "thing"] ["probe", "lot"] (defScope s_answer_of) := ⟨rfl, rfl, rfl, by decide +kernel, rfl, by decide +kernel, by decide +kernel⟩
/-- z in xs -/
def memD (xs : List PyData) (d : PyData) : Bool := xs.any fun z => PyData.eqv z d
def hitD (probe lot : List PyData) : Bool := probe.any fun d => memD lot d
def F_answer_of : List PyData → PyData
  | [.tuple p, .tuple l] => .int (if hitD p l then 1 else 0)
  | _ => .none
def FlatT (xs : List PyData) : Prop := xs.all flatD = true ∧ xs.length ≤ 1000
abbrev sp_answer_of (K : PySem.W.Frag) (T : List (Addr × Str)) : Sp := spD K T (fun ds => ∃ p l, ds = [.tuple p, .tuple l] ∧ FlatT p ∧ FlatT l) F_answer_of
theorem ok_answer_of {f : Addr} {fd : FuncData} (Fn : Fun K "answer_of" "answer_of" s_answer_of f fd) (X : Txt mg) : FnOk P w K mg base CX0 1 f fd ["probe", "lot"] (sp_answer_of K T) := by
  refine ok_defD Fn sc_answer_of (fun ds ⟨_, _, e, _⟩ => by rw [e]; rfl) fun cdv A outer s H E' hr => ?_
  refine ⟨_, (pss_one (ps_ret (pe_ifExp (pt_val (pe_callB (cr_any rfl) (by rfl) X.any bt_any (pa_cons (pe_lc (own := [("thing", 2)]) rfl sc_answer_of.nd (pi_tup (pv 0)) (blkOk_by (N := ["probe", "lot", "thing"]) (sc := defScope s_answer_of) (by decide +kernel)) (fun _ _ _ _ _ => (pg_name (i := 2) sc_answer_of.nd rfl (by first | exact Or.inl rfl | exact Or.inr rfl))) (fun _ _ _ _ _ => pts_nil) (fun _ _ _ _ _ => (pe_cmpR (r := rIn K false) op_in_seq (pv 2) (pv 1) (by rfl)))) pa_nil))) pe_int pe_int))), ?_⟩
  rintro ds ⟨p, l, rfl, hp, hl⟩
  have comp := el_lcM (K := K) (T := T) (G := [some (.dat (.tuple p)), some (.dat (.tuple l)), none]) (vs := [2]) (g := gName 2) (te := tOp (rIn K false) (tVar 2) (tVar 1)) (wi := iTup K (tVar 0)) (fun d => .bool (memD l d)) (i_tup e_var) (fun d hd => ⟨_, tg_name (by decide), by
    have fd : flatD d = true := List.all_eq_true.mp hp.1 d hd
    exact e_inSeq e_var e_var (.inr rfl) fd hl.1⟩) (Nat.le_trans hp.2 (by decide))
  have e1 : p.map (fun d => PyData.bool (memD l d)) = (p.map (memD l)).map .bool := by rw [List.map_map]; rfl
  rw [e1] at comp
  refine s_retP (e_if (b := hitD p l) (P := (· = .int (if hitD p l then 1 else 0))) (t_B ((e_any (a_cons comp.is a_nil)).is ?_)) (fun h => ?_) (fun h => ?_)) fun d h => h
  · rw [List.any_map]; rfl
  · rw [h]; exact e_int
  · rw [h]; exact e_int
theorem sc_answers_of : FnScope ["probes", "lot", "probe"] ["probes", "lot"] (defScope s_answers_of) := ⟨rfl, rfl, rfl, by decide +kernel, rfl, by decide +kernel, by decide +kernel⟩
def ansD (probe lot : PyData) : PyData := F_answer_of [probe, lot]
def F_answers_of : List PyData → PyData
  | [.tuple ps, l] => .tuple (ps.map fun p => ansD p l)
  | _ => .none
abbrev sp_answers_of (K : PySem.W.Frag) (T : List (Addr × Str)) : Sp := spD K T (fun ds => ∃ ps l, ds = [.tuple ps, .tuple l] ∧ ps.length ≤ 1000 ∧ (∀ p ∈ ps, ∃ xs, p = .tuple xs ∧ FlatT xs) ∧ FlatT l) F_answers_of
theorem ok_answers_of {f f1 : Addr} {fd fd1 : FuncData} (Fn : Fun K "answers_of" "answers_of" s_answers_of f fd) (X : Txt mg) (F1 : FnOk P w K mg base CX0 1 f1 fd1 ["probe", "lot"] (sp_answer_of K T)) (k1 : PySem.W.keepIn K (.ref f1) = true) (b1 : Binds K fd1 ["probe", "lot"] []) (m1 : mg "answer_of" = some (.ref f1)) :
    FnOk P w K mg base CX0 3 f fd ["probes", "lot"] (sp_answers_of K T) := by
  refine ok_defD Fn sc_answers_of (fun ds ⟨_, _, e, _⟩ => by rw [e]; rfl) fun cdv A outer s H E' hr => ?_
  have hr1 : Room 1 (A.deeper (envOfC "answers_of" (defScope s_answers_of) s.heap.objs.size f cdv)) := hr.mono (by decide)
  refine ⟨_, (pss_one (ps_ret (pe_callTy call_tuple_of (by rfl) X.tuple bt_tuple (pa_cons (pe_lc (own := [("probe", 2)]) rfl sc_answers_of.nd (pi_tup (pv 0)) (blkOk_by (N := ["probes", "lot", "probe"]) (sc := defScope s_answers_of) (by decide +kernel)) (fun _ _ _ _ _ => (pg_name (i := 2) sc_answers_of.nd rfl (by first | exact Or.inl rfl | exact Or.inr rfl))) (fun _ _ _ _ _ => pts_nil) (fun _ _ _ _ _ => (pe_call F1 hr1 (by rfl) m1 k1 b1 .nil pass0 (pa_cons (pv 2) (pa_cons (pv 1) pa_nil))))) pa_nil)))), ?_⟩
  rintro ds ⟨ps, l, rfl, hn, hp, hl⟩
  refine s_ret (e_tupleL (a_cons (EL.is (el_lcM (vs := [2]) (fun p => ansD p (.tuple l)) (i_tup e_var) (fun d hd => ⟨_, tg_name (by decide), ?_⟩) (Nat.le_trans hn (by decide)))) a_nil)) rfl
  obtain ⟨xs, rfl, hx⟩ := hp d hd
  exact e_callD (a_cons e_var (a_cons e_var a_nil)) ⟨xs, l, rfl, hx, hl⟩
/-- what is never come to -/
theorem s_never {F : EndG} {G : Dv.Ctx} (h : False) {t : TS} : S K T t G F := h.elim
def isAnsD (d : PyData) : Bool := isNone d || withinD d 0 1
def F_none : List PyData → PyData := fun _ => .none
def IntD (d : PyData) : Prop := ∃ i, d = .int i
theorem sc_check_plan : FnScope ["plan", "things", "probes", "number", "probe"] ["plan"] (defScope s_check_plan) := ⟨rfl, rfl, rfl, by decide +kernel, rfl, by decide +kernel, by decide +kernel⟩
structure GoodP (n : Nat) (ps : List PyData) : Prop where
  n1 : 1 ≤ n
  n10 : n ≤ 10
  len : ps.length ≤ 16
  all : ∀ p ∈ ps, isProbeD n p = true
abbrev sp_check_plan (K : PySem.W.Frag) (T : List (Addr × Str)) : Sp := spD K T (fun ds => ∃ (n : Nat) (ps : List PyData), ds = [.tuple [.int n, .tuple ps]] ∧ GoodP n ps) F_none
theorem ok_check_plan {f f1 f2 : Addr} {fd fd1 fd2 : FuncData} (Fn : Fun K "check_plan" "check_plan" s_check_plan f fd) (X : Txt mg) (F1 : FnOk P w K mg base CX0 1 f1 fd1 ["value", "low", "high"] (sp_within K T)) (k1 : PySem.W.keepIn K (.ref f1) = true) (b1 : Binds K fd1 ["value", "low", "high"] []) (m1 : mg "is_within" = some (.ref f1))
    (F2 : FnOk P w K mg base CX0 3 f2 fd2 ["value", "things"] (sp_is_probe K T)) (k2 : PySem.W.keepIn K (.ref f2) = true) (b2 : Binds K fd2 ["value", "things"] []) (m2 : mg "is_probe" = some (.ref f2)) :
    FnOk P w K mg base CX0 4 f fd ["plan"] (sp_check_plan K T) := by
  refine ok_defD Fn sc_check_plan (fun ds ⟨_, _, e, _⟩ => by rw [e]; rfl) fun cdv A outer s H E' hr => ?_
  obtain ⟨tt, mt⟩ := X.MOST_THINGS
  obtain ⟨tp, mp⟩ := X.MOST_PROBES
  have hr1 : Room 1 (A.deeper (envOfC "check_plan" (defScope s_check_plan) s.heap.objs.size f cdv)) := hr.mono (by decide)
  refine ⟨_, (pss_cons (ps_if (PW.pt (pw_or (pt_not (pt_val (pe_callB (r := rIsi K) call_isi (by rfl) X.isinstance bt_isinstance (pa_cons (pv 0) (pa_cons (pe_bltn (v := .ty "tuple") (by rfl) X.tuple bt_tuple rfl) pa_nil))))) (pw_or1 (pt_cmpR op_ne (pe_callB (r := rLenQ K) call_len_seq (by rfl) X.len bt_len (pa_cons (pv 0) pa_nil)) pe_int (nomark _))))) (pss_one ps_never) pss_nil)
  (pss_cons (ps_asg (pv 0) (pg_tup rfl (pgs_cons (pg_name (i := 1) sc_check_plan.nd rfl (by first | exact Or.inl rfl | exact Or.inr rfl)) (pgs_cons (pg_name (i := 2) sc_check_plan.nd rfl (by first | exact Or.inl rfl | exact Or.inr rfl)) pgs_nil))))
  (pss_cons (ps_if (pt_not (pt_val (pe_call F1 hr1 (by rfl) m1 k1 b1 .nil pass0 (pa_cons (pv 1) (pa_cons pe_int (pa_cons (pe_glob (v := .int 10) (by rfl) mt ⟨_, rfl⟩) pa_nil)))))) (pss_one ps_never) pss_nil)
  (pss_cons (ps_if (pt_not (pt_val (pe_callB (r := rIsi K) call_isi (by rfl) X.isinstance bt_isinstance (pa_cons (pv 2) (pa_cons (pe_bltn (v := .ty "tuple") (by rfl) X.tuple bt_tuple rfl) pa_nil))))) (pss_one ps_never) pss_nil)
  (pss_one (ps_for PassesOwn.never rfl (pi_enumT (by rfl) X.enumerate (pa_cons (pv 2) pa_nil)) (pg_tup rfl (pgs_cons (pg_name (i := 3) sc_check_plan.nd rfl (by first | exact Or.inl rfl | exact Or.inr rfl)) (pgs_cons (pg_name (i := 4) sc_check_plan.nd rfl (by first | exact Or.inl rfl | exact Or.inr rfl)) pgs_nil))) (pss_one (ps_if (PW.pt (pw_or (pt_cmpR op_eq (pv 3) (pe_glob (v := .int 16) (by rfl) mp ⟨_, rfl⟩) (nomark _)) (pw_or1 (pt_not (pt_val (pe_call F2 hr (by rfl) m2 k2 b2 .nil pass0 (pa_cons (pv 4) (pa_cons (pv 1) pa_nil)))))))) (pss_one ps_never) pss_nil)))))))), ?_⟩
  rintro ds ⟨n, ps, rfl, hg⟩
  refine s_seq (s_if (t_or (b := false) (t_not (t_B (e_isi e_var (kb_tup _)))) fun _ => t_B (E.is (e_ne (e_len (ds := [.int n, .tuple ps]) (a_cons e_var a_nil) (.inr rfl)) e_int rfl) rfl)) (fun h => by cases h) fun _ => s_next ?_)
  refine s_seq (s_asgTg e_var (tg_pair (vs := [1, 2]) (by decide) (by decide)) ?_)
  have hw : withinD (.int n) 1 10 = true := by
    have := hg.n1; have := hg.n10
    show (decide ((1 : Int) ≤ n) && decide ((n : Int) ≤ 10)) = true; rw [decide_eq_true (show (1 : Int) ≤ n by omega), decide_eq_true (show (n : Int) ≤ 10 by omega)]; rfl
  refine s_seq (s_if (t_not (t_B (b := true) (E.is (e_callD (F := F_within) (ds := [.int n, .int 1, .int 10]) (a_cons e_var (a_cons e_int (a_cons e_int a_nil))) ⟨_, 1, 10, rfl⟩) (congrArg PyData.bool hw)))) (fun h => by cases h) fun _ => s_next ?_)
  refine s_seq (s_if (t_not (t_B (e_isi e_var (kb_tup _)))) (fun h => by cases h) fun _ => s_next ?_)
  refine s_for (vs := [3, 4]) (fun i G' => ∃ x y, G' = [some (.dat (.tuple [.int n, .tuple ps])), some (.dat (.int n)), some (.dat (.tuple ps)), x, y]) (i_enumT (a_cons e_var a_nil)) ⟨none, none, rfl⟩ ?_ (fun _ _ => rfl)
  rintro i d G' hi ⟨p, hp, rfl⟩ ⟨x, y, rfl⟩
  refine ⟨_, tg_pair (by decide) (by decide), ?_⟩
  have hpm : p ∈ ps := List.mem_of_getElem? hp
  have h16 : eqD (.int i) (.int 16) = false := by
    show decide ((i : Int) = 16) = false
    have := hg.len
    exact decide_eq_false (by omega)
  refine s_if (t_or (a := false) (b := false) (t_B (E.is (e_eq e_var e_int rfl) (congrArg PyData.bool h16))) fun _ => ?_) (fun h => by cases h) fun _ => s_next ⟨_, _, rfl⟩
  exact ET.is (t_not (t_B (b := true) (E.is (e_callD (F := F_is_probe) (ds := [p, .int n]) (a_cons e_var (a_cons e_var a_nil)) ⟨p, n, rfl⟩) (congrArg PyData.bool (hg.all p hpm))))) rfl
theorem lotGo_ok {n : Int} : ∀ {xs : List PyData} {l : Int}, lotGo n l xs = true → xs.all flatD = true ∧ (xs.length : Int) ≤ max (n - l) 0 ∧ ∀ d ∈ xs, ∃ i : Int, d = .int i ∧ l ≤ i ∧ i < n
  | [], l, _ => ⟨rfl, by rw [List.length_nil]; omega, fun d h => by cases h⟩
  | .int i :: r, l, h => by
    have h' : ((decide (l ≤ i) && decide (i ≤ n - 1)) && lotGo n (i + 1) r) = true := h
    rw [Bool.and_eq_true, Bool.and_eq_true] at h'
    obtain ⟨⟨h1, h2⟩, h3⟩ := h'
    have h1 := of_decide_eq_true h1
    have h2 := of_decide_eq_true h2
    obtain ⟨a, b, c⟩ := lotGo_ok h3
    refine ⟨by rw [List.all_cons, a]; rfl, by rw [List.length_cons]; omega, fun d hd => ?_⟩
    rcases List.mem_cons.mp hd with rfl | hd
    · exact ⟨i, rfl, h1, by omega⟩
    · obtain ⟨j, e, q1, q2⟩ := c d hd
      exact ⟨j, e, by omega, q2⟩
  | .none :: r, l, h => by cases h
  | .bool _ :: r, l, h => by cases h
  | .str _ :: r, l, h => by cases h
  | .list _ :: r, l, h => by cases h
  | .tuple _ :: r, l, h => by cases h
  | .dict _ :: r, l, h => by cases h
theorem probe_ok {n : Nat} {p : PyData} (h : isProbeD n p = true) (hn : n ≤ 10) : ∃ xs, p = .tuple xs ∧ FlatT xs := by
  cases p with
  | tuple xs =>
    have h' : (lotGo n 0 xs && decide ((0 : Int) < xs.length)) = true := h
    rw [Bool.and_eq_true] at h'
    obtain ⟨a, b, _⟩ := lotGo_ok h'.1
    exact ⟨xs, rfl, a, by omega⟩
  | _ => cases h
/-! all lots -/
def lotsN (n m : Nat) : List PyData := (rng (m + 1)).flatMap fun r => match r with
  | .int i => (combs n i.toNat).map lotD
  | _ => []
theorem flat_ints : ∀ l : List Nat, (l.map fun (j : Nat) => PyData.int j).all flatD = true
  | [] => rfl
  | j :: r => by rw [List.map_cons, List.all_cons, flat_ints r]; rfl
theorem combs_ok {n r : Nat} (hn : n < 11) (hr : r < 4) {l : List Nat} (h : l ∈ combs n r) : l.length ≤ 1000 ∧ ∀ j ∈ l, j < n := by
  have q := okC_all n hn r hr
  unfold okC at q
  rw [Bool.and_eq_true] at q
  have z := List.all_eq_true.mp q.2 l h
  rw [Bool.and_eq_true] at z
  exact ⟨of_decide_eq_true z.1, fun j hj => of_decide_eq_true (List.all_eq_true.mp z.2 j hj)⟩
theorem lots_ok {n m : Nat} (hn : n < 11) (hm : m < 4) {l : PyData} (h : l ∈ lotsN n m) : ∃ js : List Nat, l = lotD js ∧ js.length ≤ 1000 ∧ ∀ j ∈ js, j < n := by
  obtain ⟨r, hr, hl⟩ := List.mem_flatMap.mp h
  obtain ⟨i, hi, rfl⟩ := mem_rng hr
  obtain ⟨js, hj, rfl⟩ := List.mem_map.mp (show l ∈ (combs n i).map lotD from hl)
  obtain ⟨a, b⟩ := combs_ok hn (by omega) hj
  exact ⟨js, rfl, a, b⟩
theorem lotD_flat {js : List Nat} (h : js.length ≤ 1000) : FlatT (js.map fun (j : Nat) => PyData.int j) := ⟨flat_ints js, by rw [List.length_map]; exact h⟩
theorem lots_len : ∀ n, n < 11 → ∀ m, m < 4 → (lotsN n m).length < 1000 := by decide +kernel
theorem sc_lots_up_to : FnScope ["things", "most", "size", "lot"] ["things", "most"] (defScope s_lots_up_to) := ⟨rfl, rfl, rfl, by decide +kernel, rfl, by decide +kernel, by decide +kernel⟩
def F_lots_up_to : List PyData → List PyData
  | [.int n, .int m] => lotsN n.toNat m.toNat
  | _ => []
abbrev sp_lots_up_to (K : PySem.W.Frag) (T : List (Addr × Str)) : Sp := spDL K T (fun ds => ∃ n m : Nat, ds = [.int n, .int m] ∧ n < 11 ∧ m < 4) F_lots_up_to
theorem ok_lots_up_to {f : Addr} {fd : FuncData} (Fn : Fun K "lots_up_to" "lots_up_to" s_lots_up_to f fd) (X : Txt mg) (mc : mg "combinations" = some (.type "itertools.combinations")) :
    FnOk P w K mg base CX0 2 f fd ["things", "most"] (sp_lots_up_to K T) := by
  refine ok_defDL Fn sc_lots_up_to (fun ds ⟨_, _, e, _⟩ => by rw [e]; rfl) fun cdv A outer s H E' hr => ?_
  refine ⟨_, (pss_one (ps_ret (pe_lc2 (own := [("size", 2), ("lot", 3)]) (vs1 := [3]) rfl sc_lots_up_to.nd (pi_range1 rfl X.range (pa_cons (pe_op op_add (pv 1) pe_int) pa_nil)) (blkOk_by (N := ["things", "most", "size", "lot"]) (sc := defScope s_lots_up_to) (by decide +kernel)) (by decide)
    (fun _ _ _ _ _ => (pg_name (i := 2) sc_lots_up_to.nd rfl (by first | exact Or.inl rfl | exact Or.inr rfl))) (fun _ _ _ _ _ => pts_nil)
    (fun _ _ _ _ _ => pi_comb rfl (by rfl) mc (by rfl) X.range (pv 0) (pv 2))
    (fun _ _ _ _ _ => (pg_name (i := 3) sc_lots_up_to.nd rfl (by first | exact Or.inl rfl | exact Or.inr rfl))) (fun _ _ _ _ _ => pts_nil) (fun _ _ _ _ _ => (pv 3))))), ?_⟩
  rintro ds ⟨n, m, rfl, hn, hm⟩
  have hl := lots_len n hn m hm
  have em : ((m : Int) + 1) = ((m + 1 : Nat) : Int) := by omega
  refine s_retL (el_lc2D (vs := [2, 3]) (vs1 := [3]) (ds := rng (m + 1)) (fun r => match r with | .int i => (combs n i.toNat).map lotD | _ => []) (fun _ e => e) (i_rngN (EA.is (a_cons (e_add e_var e_int) a_nil) (by rw [em])) (by omega)) (fun d hd => ?_) ?_) fun d h => ?_
  · obtain ⟨i, hi, rfl⟩ := mem_rng hd
    refine ⟨_, tg_name (by decide), i_comb (n := n) (r := i) e_var e_var (inB_of hn (by omega)), fun e he => ⟨_, tg_name (by decide), e_var⟩⟩
  · have e1 : ((rng (m + 1)).flatMap fun d => ((match d with | .int i => (combs n i.toNat).map lotD | _ => []) : List PyData).map fun e => e) = lotsN n m := by
      unfold lotsN
      congr 1
      funext d
      rw [List.map_id']
    rw [e1]
    omega
  · rw [h]
    show _ = lotsN n m
    unfold lotsN
    congr 1
    funext d
    rw [List.map_id']
end
end K17

namespace K17
open PySem PySem.Spec L2 Dv DvC DvT
open PyProof.Rows hiding St
section
variable {P : Program} {w : World} {K : PySem.W.Frag} {mg : Str → Option Value} {base : Heap} {T : List (Addr × Str)}
/-! what the program's defs of plans let out -/
/-- an own class without __init__ -/
structure ClsN (K : PySem.W.Frag) (mg : Str → Option Value) (x : Str) (C : Addr) : Prop where
  m : mg x = some (.ref C)
  q : PySem.W.excIn K C PySem.HandSPX.veTail "ValueError.__new__" = true
  k : PySem.W.keepIn K (.ref C) = true
  s : PySem.W.subIn K (.ref C) (.type "BaseException") = some true
  t : PySem.W.typeIn K (.ref C) = some (.type "type")
/-- an own class whose __init__ takes a number -/
structure ClsI (K : PySem.W.Frag) (P : Program) (mg : Str → Option Value) (x : Str) (C fI : Addr) (fd : FuncData) (nm fld txt : Str) : Prop where
  m : mg x = some (.ref C)
  o : OexC K C
  i : PySem.W.findIn K (.ref C) "__init__" = some (some (.ref fI))
  t : PySem.W.typeIn K (.ref fI) = some (.type "function")
  b : Binds K fd ["self", nm] []
  T : PySem.XIn.OwnI P K mg C fI fd nm fld txt
abbrev numX (C : Addr) (k : Int) : Xd := ⟨C, some [("number", .int k)]⟩
theorem good_flat {n : Nat} {ps : List PyData} (hg : GoodP n ps) : ∀ p ∈ ps, ∃ xs, p = .tuple xs ∧ FlatT xs := fun p hp => probe_ok (hg.all p hp) hg.n10
theorem within_int {d : PyData} {lo hi : Int} (h : withinD d lo hi = true) : ∃ i, d = .int i ∧ lo ≤ i ∧ i ≤ hi := by
  cases d with
  | int i =>
    have h' : (decide (lo ≤ i) && decide (i ≤ hi)) = true := h
    rw [Bool.and_eq_true] at h'
    exact ⟨i, rfl, of_decide_eq_true h'.1, of_decide_eq_true h'.2⟩
  | _ => cases h
/-! check_plan, whatever is handed in -/
theorem num_plan : ∀ i : Nat, i ≤ 16 → NumOk "no plan, by " i := by
  have h : ∀ i : Nat, i < 17 → ((i : Nat) : Int).natAbs.log2 < 1920 ∧ ((Str.empty ++ ("no plan, by " : Str)) ++ (toString ((i : Nat) : Int) : String)).length ≤ sizeLine := by decide +kernel
  intro i hi
  exact h i (by omega)
theorem num_plan1 : NumOk "no plan, by " (-1) := ⟨by decide +kernel, by decide +kernel⟩
def planGo (n : Int) : Nat → List PyData → Option Int
  | _, [] => none
  | i, p :: r => if i = 16 ∨ isProbeD n p = false then (some ((i : Nat) : Int) : Option Int) else planGo n (i + 1) r
/-- the first that can't be -/
def planX : PyData → Option Int
  | .tuple [.int n, .tuple ps] => if (decide (1 ≤ n) && decide (n ≤ 10)) = true then planGo n 0 ps else some (-1)
  | .tuple [.int n, _] => if (decide (1 ≤ n) && decide (n ≤ 10)) = true then some 0 else some (-1)
  | _ => some (-1)
theorem planGo_drop {n : Int} {ps : List PyData} {i : Nat} {p : PyData} (hp : ps[i]? = some p) : planGo n i (ps.drop i) = if i = 16 ∨ isProbeD n p = false then (some ((i : Nat) : Int) : Option Int) else planGo n (i + 1) (ps.drop (i + 1)) := by
  obtain ⟨h1, h2⟩ := List.getElem?_eq_some_iff.mp hp
  rw [List.drop_eq_getElem_cons h1, h2]
  rfl
abbrev sx_check_plan (K : PySem.W.Frag) (T : List (Addr × Str)) (CP : Addr) : Sp := spX K T (fun os => ∃ d, os = dats [d]) (fun os r => ∃ d, os = dats [d] ∧ planX d = none ∧ r = .none) (fun os x => ∃ d k, os = dats [d] ∧ planX d = some k ∧ x = ⟨CP, some [("number", .int k)]⟩)
theorem within_no {d : PyData} (h : withinD d 1 10 = false) (e : PyData) : planX (.tuple [d, e]) = some (-1) := by
  cases d with
  | int n =>
    have h' : (decide (1 ≤ n) && decide (n ≤ 10)) = false := h
    cases e <;> (show (if (decide (1 ≤ n) && decide (n ≤ 10)) = true then _ else some (-1)) = some (-1); rw [h']; rfl)
  | _ => rfl
theorem ok_check_planX {f f1 f2 CP fI : Addr} {fd fd1 fd2 fdI : FuncData} (Fn : Fun K "check_plan" "check_plan" s_check_plan f fd) (X : Txt mg) (F1 : FnOk P w K mg base CX0 1 f1 fd1 ["value", "low", "high"] (sp_within K T)) (k1 : PySem.W.keepIn K (.ref f1) = true) (b1 : Binds K fd1 ["value", "low", "high"] []) (m1 : mg "is_within" = some (.ref f1))
    (F2 : FnOk P w K mg base CX0 3 f2 fd2 ["value", "things"] (sp_is_probe K T)) (k2 : PySem.W.keepIn K (.ref f2) = true) (b2 : Binds K fd2 ["value", "things"] []) (m2 : mg "is_probe" = some (.ref f2)) (L : ClsI K P mg "BadPlan" CP fI fdI "number" "number" "no plan, by ") :
    FnOk P w K mg base (L2.CX P w) 4 f fd ["plan"] (sx_check_plan K T CP) := by
  refine ok_defX Fn sc_check_plan (fun os ⟨_, e⟩ => by rw [e]; rfl) fun cdv A outer s H E' hr => ?_
  obtain ⟨tt, mt⟩ := X.MOST_THINGS
  obtain ⟨tp, mp⟩ := X.MOST_PROBES
  have hr1 : Room 1 (A.deeper (envOfC "check_plan" (defScope s_check_plan) s.heap.objs.size f cdv)) := hr.mono (by decide)
  have hr2 : Room 2 (A.deeper (envOfC "check_plan" (defScope s_check_plan) s.heap.objs.size f cdv)) := hr.mono (by decide)
  refine ⟨_, (pss_cons (ps_if (PW.pt (pw_or (pt_not (pt_val (pe_callB (r := rIsi K) call_isi (by rfl) X.isinstance bt_isinstance (pa_cons (pv 0) (pa_cons (pe_bltn (v := .ty "tuple") (by rfl) X.tuple bt_tuple rfl) pa_nil))))) (pw_or1 (pt_cmpR op_ne (pe_callB (r := rLenQ K) call_len_seq (by rfl) X.len bt_len (pa_cons (pv 0) pa_nil)) pe_int (nomark _))))) (pss_one (ps_raise rfl (takes_of (E := E') rfl rfl rfl rfl) (pmk_oex L.o L.i L.t (fn_init (w := w) (base := base) L.T) hr2 L.b .nil pass0 (by rfl) L.m (pa_cons (pe_un un_neg pe_int) pa_nil)))) pss_nil)
  (pss_cons (ps_asg (pv 0) (pg_tup rfl (pgs_cons (pg_name (i := 1) sc_check_plan.nd rfl (by first | exact Or.inl rfl | exact Or.inr rfl)) (pgs_cons (pg_name (i := 2) sc_check_plan.nd rfl (by first | exact Or.inl rfl | exact Or.inr rfl)) pgs_nil))))
  (pss_cons (ps_if (pt_not (pt_val (pe_call F1 hr1 (by rfl) m1 k1 b1 .nil pass0 (pa_cons (pv 1) (pa_cons pe_int (pa_cons (pe_glob (v := .int 10) (by rfl) mt ⟨_, rfl⟩) pa_nil)))))) (pss_one (ps_raise rfl (takes_of (E := E') rfl rfl rfl rfl) (pmk_oex L.o L.i L.t (fn_init (w := w) (base := base) L.T) hr2 L.b .nil pass0 (by rfl) L.m (pa_cons (pe_un un_neg pe_int) pa_nil)))) pss_nil)
  (pss_cons (ps_if (pt_not (pt_val (pe_callB (r := rIsi K) call_isi (by rfl) X.isinstance bt_isinstance (pa_cons (pv 2) (pa_cons (pe_bltn (v := .ty "tuple") (by rfl) X.tuple bt_tuple rfl) pa_nil))))) (pss_one (ps_raise rfl (takes_of (E := E') rfl rfl rfl rfl) (pmk_oex L.o L.i L.t (fn_init (w := w) (base := base) L.T) hr2 L.b .nil pass0 (by rfl) L.m (pa_cons pe_int pa_nil)))) pss_nil)
  (pss_one (ps_for (PassesOwn.leaving) rfl (pi_enumT (by rfl) X.enumerate (pa_cons (pv 2) pa_nil)) (pg_tup rfl (pgs_cons (pg_name (i := 3) sc_check_plan.nd rfl (by first | exact Or.inl rfl | exact Or.inr rfl)) (pgs_cons (pg_name (i := 4) sc_check_plan.nd rfl (by first | exact Or.inl rfl | exact Or.inr rfl)) pgs_nil))) (pss_one (ps_if (PW.pt (pw_or (pt_cmpR op_eq (pv 3) (pe_glob (v := .int 16) (by rfl) mp ⟨_, rfl⟩) (nomark _)) (pw_or1 (pt_not (pt_val (pe_call F2 hr (by rfl) m2 k2 b2 .nil pass0 (pa_cons (pv 4) (pa_cons (pv 1) pa_nil)))))))) (pss_one (ps_raise rfl (takes_of (E := E') rfl rfl rfl rfl) (pmk_oex L.o L.i L.t (fn_init (w := w) (base := base) L.T) hr2 L.b .nil pass0 (by rfl) L.m (pa_cons (pv 3) pa_nil)))) pss_nil)))))))), ?_⟩
  rintro os ⟨d, rfl⟩
  have neg : ∀ {G : Dv.Ctx}, planX d = some (-1) → MX K T (tMkO CP (spIni CP "number" "no plan, by ") [] (tCons (tUn (rU fun i => .int (-i)) (tC (.int 1))) tNil)) G (fun x => ∃ d' k, dats [d] = dats [d'] ∧ planX d' = some k ∧ x = ⟨CP, some [("number", .int k)]⟩) := fun {G} h => mx_ini (i := -1) (a_cons (e_neg e_int) a_nil) num_plan1 ⟨d, -1, rfl, h, rfl⟩
  cases hk : kTup d with
  | false =>
    have hx : planX d = some (-1) := by
      cases d <;> first | rfl | cases hk
    exact sx_seq (sx_if (t_or (a := true) (b := true) (ET.is (t_not (t_B (e_isi e_var (kb_tup d)))) (by rw [hk]; try rfl)) (fun h => by cases h)) (fun _ => sx_raise (neg hx)) fun h => by cases h)
  | true =>
  obtain ⟨xs, rfl⟩ : ∃ xs, d = .tuple xs := by
    cases d <;> first | exact ⟨_, rfl⟩ | cases hk
  by_cases hl : xs.length = 2
  rotate_left
  · have hx : planX (.tuple xs) = some (-1) := by
      match xs, hl with
      | [], _ => rfl
      | [a], _ => cases a <;> rfl
      | [a, b], h => exact absurd rfl h
      | a :: b :: c :: r, _ => cases a <;> cases b <;> rfl
    have en : ∀ {G : Dv.Ctx}, G[0]? = some (some (.dat (.tuple xs))) → E K T (tOp rNe (tCB (rLenQ K) (tCons (tVar 0) tNil)) (tC (.int 2))) G (· = .bool true) := fun {G} hg => E.is (e_ne (e_len (ds := xs) (a_cons (e_var hg) a_nil) (.inr rfl)) e_int rfl) (by
      show PyData.bool (!decide ((xs.length : Int) = 2)) = _
      rw [decide_eq_false (show ¬ (xs.length : Int) = 2 by omega)]
      rfl)
    exact sx_seq (sx_if (t_or (a := false) (b := true) (t_not (t_B (e_isi e_var (kb_tup (.tuple xs))))) fun _ => t_B (en rfl)) (fun _ => sx_raise (neg hx)) fun h => by cases h)
  obtain ⟨a, b, rfl⟩ : ∃ a b, xs = [a, b] := by
    match xs, hl with
    | [a, b], _ => exact ⟨a, b, rfl⟩
  refine sx_seq (sx_if (t_or (a := false) (b := false) (t_not (t_B (e_isi e_var (kb_tup (.tuple [a, b]))))) fun _ => t_B (E.is (e_ne (e_len (ds := [a, b]) (a_cons e_var a_nil) (.inr rfl)) e_int rfl) rfl)) (fun h => by cases h) fun _ => sx_of (s_next ?_))
  refine sx_seq (sx_of (s_asgTg e_var (tg_pair (vs := [1, 2]) (by decide) (by decide)) ?_))
  refine sx_seq (sx_if (t_not (t_B (b := withinD a 1 10) (E.is (e_callD (F := F_within) (ds := [a, .int 1, .int 10]) (a_cons e_var (a_cons e_int (a_cons e_int a_nil))) ⟨_, 1, 10, rfl⟩) rfl))) (fun h => sx_raise (neg (within_no (by simpa using h) b))) fun h => sx_of (s_next ?_))
  obtain ⟨n, rfl, n1, n2⟩ := within_int (show withinD a 1 10 = true by simpa using h)
  have hin : (decide (1 ≤ n) && decide (n ≤ 10)) = true := by rw [decide_eq_true n1, decide_eq_true n2, Bool.and_self]
  cases hb : kTup b with
  | false =>
    have hx : planX (.tuple [.int n, b]) = some 0 := by
      cases b <;> first | (show (if (decide (1 ≤ n) && decide (n ≤ 10)) = true then some 0 else some (-1)) = some 0; rw [if_pos hin]) | cases hb
    exact sx_seq (sx_if (ET.is (t_not (t_B (e_isi e_var (kb_tup b)))) (by rw [hb]; try rfl)) (fun _ => sx_raise (mx_ini (i := 0) (a_cons e_int a_nil) (num_plan 0 (Nat.zero_le _)) ⟨_, 0, rfl, hx, rfl⟩)) fun h => by cases h)
  | true =>
  obtain ⟨ps, rfl⟩ : ∃ ps, b = .tuple ps := by
    cases b <;> first | exact ⟨_, rfl⟩ | cases hb
  have hx : planX (.tuple [.int n, .tuple ps]) = planGo n 0 ps := if_pos hin
  refine sx_seq (sx_if (t_not (t_B (e_isi e_var (kb_tup (.tuple ps))))) (fun h => by cases h) fun _ => sx_of (s_next ?_))
  refine sx_for (vs := [3, 4]) (fun i G' => ∃ x y, G' = [some (.dat (.tuple [.int n, .tuple ps])), some (.dat (.int n)), some (.dat (.tuple ps)), x, y] ∧ i ≤ 16 ∧ planGo n i (ps.drop i) = planGo n 0 ps) (i_enumT (a_cons e_var a_nil)) ⟨none, none, rfl, by decide, rfl⟩ ?_ ?_
  rotate_left
  · rintro G' ⟨x, y, rfl, _, hgo⟩
    refine ⟨_, rfl, ?_, rfl⟩
    rw [hx, ← hgo, List.drop_length]
    rfl
  rintro i d G' hi ⟨p, hp, rfl⟩ ⟨x, y, rfl, h16, hgo⟩
  refine ⟨_, tg_pair (by decide) (by decide), ?_⟩
  rw [planGo_drop hp] at hgo
  refine sx_if (t_or (a := decide ((i : Int) = 16)) (b := !isProbeD n p) (t_B (E.is (e_eq (d := .int (i : Nat)) (e := .int 16) e_var e_int rfl) rfl)) fun _ => t_not (t_B (E.is (e_callD (F := F_is_probe) (ds := [p, .int n]) (a_cons e_var (a_cons e_var a_nil)) ⟨p, n, rfl⟩) rfl))) (fun h => ?_) fun h => ?_
  · have hc : i = 16 ∨ isProbeD n p = false := by
      rw [Bool.or_eq_true] at h
      rcases h with h | h
      · have := of_decide_eq_true h
        exact .inl (by omega)
      · exact .inr (by simpa using h)
    rw [if_pos hc] at hgo
    exact sx_raise (mx_ini (i := (i : Nat)) (a_cons e_var a_nil) (num_plan i h16) ⟨_, i, rfl, hx.trans hgo.symm, rfl⟩)
  · rw [Bool.or_eq_false_iff] at h
    have e1 := of_decide_eq_false h.1
    have e2 : isProbeD n p = true := by simpa using h.2
    rw [if_neg (by rintro (z | z); exact e1 (by omega); rw [e2] at z; cases z)] at hgo
    exact sx_of (s_next ⟨_, _, rfl, by omega, hgo⟩)
/-! what check_plan lets by is a plan -/
theorem planGo_good {n : Int} : ∀ {ps : List PyData} {i : Nat}, i ≤ 16 → planGo n i ps = none → i + ps.length ≤ 16 ∧ ∀ p ∈ ps, isProbeD n p = true
  | [], i, hi, _ => ⟨hi, fun p hp => by cases hp⟩
  | p :: r, i, hi, h => by
    have h' : (if i = 16 ∨ isProbeD n p = false then (some ((i : Nat) : Int) : Option Int) else planGo n (i + 1) r) = none := h
    by_cases hc : i = 16 ∨ isProbeD n p = false
    · rw [if_pos hc] at h'
      cases h'
    · rw [if_neg hc] at h'
      have n16 : ¬ i = 16 := fun z => hc (.inl z)
      have ok : isProbeD n p = true := by
        cases e : isProbeD n p with
        | true => rfl
        | false => exact absurd (.inr e) hc
      obtain ⟨a, b⟩ := planGo_good (i := i + 1) (by omega) h'
      refine ⟨by show i + (r.length + 1) ≤ 16; omega, fun q hq => ?_⟩
      rcases List.mem_cons.mp hq with rfl | hq
      · exact ok
      · exact b q hq
theorem planX_good {d : PyData} (h : planX d = none) : ∃ (n : Nat) (ps : List PyData), d = .tuple [.int n, .tuple ps] ∧ GoodP n ps := by
  have bad : ∀ {k : Int}, (some k : Option Int) = none → ∃ (n : Nat) (ps : List PyData), d = .tuple [.int n, .tuple ps] ∧ GoodP n ps := fun z => by cases z
  cases d with
  | tuple xs =>
    match xs with
    | [] => exact bad h
    | [.int n, b] =>
      by_cases hn : (decide (1 ≤ n) && decide (n ≤ 10)) = true
      · have h1 := of_decide_eq_true (Bool.and_eq_true_iff.mp hn).1
        have h2 := of_decide_eq_true (Bool.and_eq_true_iff.mp hn).2
        cases b with
        | tuple ps =>
          have h' : (if (decide (1 ≤ n) && decide (n ≤ 10)) = true then planGo n 0 ps else some (-1)) = none := h
          rw [if_pos hn] at h'
          obtain ⟨a, b⟩ := planGo_good (Nat.zero_le _) h'
          obtain ⟨k, rfl⟩ : ∃ k : Nat, n = k := ⟨n.toNat, by omega⟩
          exact ⟨k, ps, rfl, by omega, by omega, by omega, b⟩
        | _ =>
          have h' : (if (decide (1 ≤ n) && decide (n ≤ 10)) = true then (some 0 : Option Int) else some (-1)) = none := h
          rw [if_pos hn] at h'
          cases h'
      · cases b <;> (
          have h' : (if (decide (1 ≤ n) && decide (n ≤ 10)) = true then _ else (some (-1) : Option Int)) = none := h
          rw [if_neg hn] at h'
          cases h')
    | [a] => cases a <;> exact bad h
    | [.none, b] => exact bad h
    | [.bool _, b] => exact bad h
    | [.str _, b] => exact bad h
    | [.list _, b] => exact bad h
    | [.tuple _, b] => exact bad h
    | [.dict _, b] => exact bad h
    | a :: b :: c :: r => cases a <;> cases b <;> exact bad h
  | _ => exact bad h
theorem planX_of {n : Nat} {ps : List PyData} (h : GoodP n ps) : planX (.tuple [.int n, .tuple ps]) = none := by
  have key : ∀ (ps : List PyData) (i : Nat), i + ps.length ≤ 16 → (∀ p ∈ ps, isProbeD n p = true) → planGo n i ps = none := by
    intro ps
    induction ps with
    | nil => intro i _ _; rfl
    | cons p r ih =>
      intro i hi hp
      have hi : i + (r.length + 1) ≤ 16 := hi
      show (if i = 16 ∨ isProbeD n p = false then (some ((i : Nat) : Int) : Option Int) else planGo n (i + 1) r) = none
      rw [if_neg (by rintro (z | z); omega; rw [hp p (List.mem_cons_self ..)] at z; cases z)]
      exact ih (i + 1) (by omega) fun q hq => hp q (List.mem_cons_of_mem _ hq)
  show (if (decide ((1 : Int) ≤ n) && decide ((n : Int) ≤ 10)) = true then planGo n 0 ps else some (-1)) = none
  have h1 := h.n1
  have h2 := h.n10
  rw [if_pos (by rw [decide_eq_true (show (1 : Int) ≤ n by omega), decide_eq_true (show (n : Int) ≤ 10 by omega)]; rfl)]
  exact key ps 0 (by have := h.len; omega) h.all
theorem sc_check_count : FnScope ["value", "low", "high"] ["value", "low", "high"] (defScope s_check_count) := ⟨rfl, rfl, rfl, by decide +kernel, rfl, by decide +kernel, by decide +kernel⟩
abbrev sx_check_count (K : PySem.W.Frag) (T : List (Addr × Str)) (CC : Addr) : Sp := spX K T (fun os => ∃ d lo hi, os = dats [d, .int lo, .int hi] ∧ Txt2 "no number from " " to " lo hi)
  (fun os r => ∃ d lo hi, os = dats [d, .int lo, .int hi] ∧ withinD d lo hi = true ∧ r = .none) (fun os x => ∃ d lo hi, os = dats [d, .int lo, .int hi] ∧ withinD d lo hi = false ∧ x = ⟨CC, none⟩)
theorem ok_check_count {f f1 CC : Addr} {fd fd1 : FuncData} (Fn : Fun K "check_count" "check_count" s_check_count f fd) (F1 : FnOk P w K mg base CX0 1 f1 fd1 ["value", "low", "high"] (sp_within K T)) (k1 : PySem.W.keepIn K (.ref f1) = true) (b1 : Binds K fd1 ["value", "low", "high"] []) (m1 : mg "is_within" = some (.ref f1)) (L : ClsN K mg "BadCount" CC) :
    FnOk P w K mg base (L2.CX P w) 2 f fd ["value", "low", "high"] (sx_check_count K T CC) := by
  refine ok_defX Fn sc_check_count (fun os ⟨_, _, _, e, _⟩ => by rw [e]; rfl) fun cdv A outer s H E' hr => ?_
  refine ⟨_, (pss_one (ps_if (pt_not (pt_val (pe_call F1 hr (by rfl) m1 k1 b1 .nil pass0 (pa_cons (pv 0) (pa_cons (pv 1) (pa_cons (pv 2) pa_nil))))))
    (pss_one (ps_raise rfl (takes_of (E := E') rfl rfl rfl rfl) (pmk_ownA PySem.F.excBase_ValueError L.q L.m L.k (raises_own L.s L.t) (by rfl) (pa_cons (pe_joined (.cons pe_str (.cons (pe_fmt (pv 1)) (.cons pe_str (.cons (pe_fmt (pv 2)) .nil))))) pa_nil)))) pss_nil)), ?_⟩
  rintro os ⟨d, lo, hi, rfl, z⟩
  refine sx_if (t_not (t_B (b := withinD d lo hi) (E.is (e_callD (F := F_within) (ds := [d, .int lo, .int hi]) (a_cons e_var (a_cons e_var (a_cons e_var a_nil))) ⟨d, lo, hi, rfl⟩) rfl)))
    (fun h => sx_raise (mx_ownA (a_consP (P := fun _ => True) (e_fstr2 e_var e_var z) a_nil) (fun os' ⟨d', r', e, _, er⟩ => by rw [e, er]; show 1 ≤ sizeLine; decide) ⟨d, lo, hi, rfl, by simpa using h, rfl⟩)) fun h => sx_of (s_next ⟨d, lo, hi, rfl, by simpa using h, rfl⟩)
theorem sc_is_answer : FnScope ["value"] ["value"] (defScope s_is_answer) := ⟨rfl, rfl, rfl, by decide +kernel, rfl, by decide +kernel, by decide +kernel⟩
def F_is_answer : List PyData → PyData
  | [v] => .bool (isAnsD v)
  | _ => .none
abbrev sp_is_answer (K : PySem.W.Frag) (T : List (Addr × Str)) : Sp := spD K T (fun ds => ∃ v, ds = [v]) F_is_answer
theorem ok_is_answer {f f1 : Addr} {fd fd1 : FuncData} (Fn : Fun K "is_answer" "is_answer" s_is_answer f fd) (F1 : FnOk P w K mg base CX0 1 f1 fd1 ["value", "low", "high"] (sp_within K T)) (k1 : PySem.W.keepIn K (.ref f1) = true) (b1 : Binds K fd1 ["value", "low", "high"] []) (m1 : mg "is_within" = some (.ref f1)) :
    FnOk P w K mg base CX0 2 f fd ["value"] (sp_is_answer K T) := by
  refine ok_defD Fn sc_is_answer (fun ds ⟨_, e⟩ => by rw [e]; rfl) fun cdv A outer s H E' hr => ?_
  refine ⟨_, (pss_one (ps_ret (pe_or (pe_cmp (pc_isN (pv 0)) rfl) (pe_one (pe_call F1 hr (by rfl) m1 k1 b1 .nil pass0 (pa_cons (pv 0) (pa_cons pe_int (pa_cons pe_int pa_nil)))))))), ?_⟩
  rintro ds ⟨v, rfl⟩
  refine s_ret (e_orV (b := withinD v 0 1) (e_isN e_var) fun _ => E.is (e_callD (F := F_within) (ds := [v, .int 0, .int 1]) (a_cons e_var (a_cons e_int (a_cons e_int a_nil))) ⟨v, 0, 1, rfl⟩) rfl) rfl
/-! the first that is wrong -/
/-- what is told of values: none where all are right and as many as wanted -/
theorem sc_first_wrong : FnScope ["values", "many", "is_right", "number", "value"] ["values", "many", "is_right"] (defScope s_first_wrong) := ⟨rfl, rfl, rfl, by decide +kernel, rfl, by decide +kernel, by decide +kernel⟩
abbrev F_is (p : PyData → Bool) : List PyData → PyData
  | [v] => .bool (p v)
  | _ => .none
abbrev sp_is (K : PySem.W.Frag) (T : List (Addr × Str)) (p : PyData → Bool) : Sp := spD K T (fun ds => ∃ v, ds = [v]) (F_is p)
abbrev sp_first (K : PySem.W.Frag) (T : List (Addr × Str)) (g : Addr) (p : PyData → Bool) : Sp := spA K T (fun os => ∃ ts : List PyData, os = [.dat (.tuple ts), .dat (.int ts.length), .fn g] ∧ ∀ d ∈ ts, p d = true) (fun _ d => d = .none)
theorem ok_first_wrong {f g : Addr} {fd fdg : FuncData} {p : PyData → Bool} {a : Str} (Fn : Fun K "first_wrong" "first_wrong" s_first_wrong f fd) (X : Txt mg)
    (Fg : FnOk P w K mg base CX0 2 g fdg [a] (sp_is K T p)) (kg : PySem.W.keepIn K (.ref g) = true) (bg : Binds K fdg [a] []) :
    FnOk P w K mg base CX0 3 f fd ["values", "many", "is_right"] (sp_first K T g p) := by
  refine ok_def Fn sc_first_wrong (fun os ⟨_, e, _⟩ => by rw [e]; rfl) fun cdv A outer s H E' hr => ?_
  refine ⟨_, (pss_cons (ps_if (pt_not (pt_val (pe_callB (r := rIsi K) call_isi (by rfl) X.isinstance bt_isinstance (pa_cons (pv 0) (pa_cons (pe_bltn (v := .ty "tuple") (by rfl) X.tuple bt_tuple rfl) pa_nil))))) (pss_one (ps_ret pe_int)) pss_nil)
  (pss_cons (ps_for PassesOwn.never rfl (pi_enumT (by rfl) X.enumerate (pa_cons (pv 0) pa_nil)) (pg_tup rfl (pgs_cons (pg_name (i := 3) sc_first_wrong.nd rfl (by first | exact Or.inl rfl | exact Or.inr rfl)) (pgs_cons (pg_name (i := 4) sc_first_wrong.nd rfl (by first | exact Or.inl rfl | exact Or.inr rfl)) pgs_nil))) (pss_one (ps_if (PW.pt (pw_or (pt_cmpR op_eq (pv 3) (pv 1) (nomark _)) (pw_or1 (pt_not (pt_val (pe_callL (i := 2) Fg hr rfl (by first | exact Or.inl rfl | exact Or.inr rfl) kg bg .nil pass0 (pa_cons (pv 4) pa_nil))))))) (pss_one (ps_ret (pv 3))) pss_nil)))
  (pss_one (ps_ret (pe_ifExp (pt_cmpR op_lt (pe_callB (r := rLenQ K) call_len_seq (by rfl) X.len bt_len (pa_cons (pv 0) pa_nil)) (pv 1) (nomark _)) (pe_callB (r := rLenQ K) call_len_seq (by rfl) X.len bt_len (pa_cons (pv 0) pa_nil)) pe_non))))), ?_⟩
  rintro os ⟨ts, rfl, hg⟩
  refine s_seq (s_if (t_not (t_B (e_isi e_var (kb_tup _)))) (fun h => by cases h) fun _ => s_next ?_)
  refine s_seq (s_for (vs := [3, 4]) (fun i G' => ∃ x y, G' = [some (.dat (.tuple ts)), some (.dat (.int ts.length)), some (.fn g), x, y]) (i_enumT (a_cons e_var a_nil)) ⟨none, none, rfl⟩ ?_ ?_)
  · rintro i d G' hi ⟨v, hp, rfl⟩ ⟨x, y, rfl⟩
    refine ⟨_, tg_pair (by decide) (by decide), ?_⟩
    have hpm : v ∈ ts := List.mem_of_getElem? hp
    have h16 : eqD (.int i) (.int ts.length) = false := by
      show decide ((i : Int) = ts.length) = false
      exact decide_eq_false (by omega)
    refine s_if (t_or (a := false) (b := false) (t_B (E.is (e_eq e_var e_var rfl) (congrArg PyData.bool h16))) fun _ => ?_) (fun h => by cases h) fun _ => s_next ⟨_, _, rfl⟩
    exact ET.is (t_not (t_B (b := true) (E.is (e_callLD (F := F_is p) (ds := [v]) rfl (a_cons e_var a_nil) ⟨v, rfl⟩) (congrArg PyData.bool (hg v hpm))))) rfl
  · rintro G' ⟨x, y, rfl⟩
    refine s_ret (d := .none) (e_if (b := false) (t_B (E.is (e_cmp (f := fun i j => decide (i < j)) (e_len (a_cons e_var a_nil) (.inr rfl)) e_var) (congrArg PyData.bool (decide_eq_false (by omega))))) (fun h => by cases h) fun _ => e_non) rfl
/-! first_wrong, whatever is handed in -/
def firstGo (p : PyData → Bool) (many : Int) (all : Nat) : Nat → List PyData → PyData
  | _, [] => if (all : Int) < many then .int all else .none
  | i, v :: r => if (i : Int) = many ∨ p v = false then .int (i : Nat) else firstGo p many all (i + 1) r
/-- the number of the first that can't be, None for none -/
def firstX (p : PyData → Bool) (many : Int) : PyData → PyData
  | .tuple ts => firstGo p many ts.length 0 ts
  | _ => .int 0
abbrev sp_firstX (K : PySem.W.Frag) (T : List (Addr × Str)) (g : Addr) (p : PyData → Bool) : Sp := spA K T (fun os => ∃ (d : PyData) (many : Int), os = [.dat d, .dat (.int many), .fn g]) (fun os r => ∃ (d : PyData) (many : Int), os = [.dat d, .dat (.int many), .fn g] ∧ r = firstX p many d)
theorem firstGo_drop {p : PyData → Bool} {many : Int} {all : Nat} {ts : List PyData} {i : Nat} {v : PyData} (h : ts[i]? = some v) : firstGo p many all i (ts.drop i) = if (i : Int) = many ∨ p v = false then .int (i : Nat) else firstGo p many all (i + 1) (ts.drop (i + 1)) := by
  obtain ⟨h1, h2⟩ := List.getElem?_eq_some_iff.mp h
  rw [List.drop_eq_getElem_cons h1, h2]
  rfl
theorem ok_first_wrongX {f g : Addr} {fd fdg : FuncData} {p : PyData → Bool} {a : Str} (Fn : Fun K "first_wrong" "first_wrong" s_first_wrong f fd) (X : Txt mg)
    (Fg : FnOk P w K mg base CX0 2 g fdg [a] (sp_is K T p)) (kg : PySem.W.keepIn K (.ref g) = true) (bg : Binds K fdg [a] []) :
    FnOk P w K mg base CX0 3 f fd ["values", "many", "is_right"] (sp_firstX K T g p) := by
  refine ok_def Fn sc_first_wrong (fun os ⟨_, _, e⟩ => by rw [e]; rfl) fun cdv A outer s H E' hr => ?_
  refine ⟨_, (pss_cons (ps_if (pt_not (pt_val (pe_callB (r := rIsi K) call_isi (by rfl) X.isinstance bt_isinstance (pa_cons (pv 0) (pa_cons (pe_bltn (v := .ty "tuple") (by rfl) X.tuple bt_tuple rfl) pa_nil))))) (pss_one (ps_ret pe_int)) pss_nil)
  (pss_cons (ps_for PassesOwn.never rfl (pi_enumT (by rfl) X.enumerate (pa_cons (pv 0) pa_nil)) (pg_tup rfl (pgs_cons (pg_name (i := 3) sc_first_wrong.nd rfl (by first | exact Or.inl rfl | exact Or.inr rfl)) (pgs_cons (pg_name (i := 4) sc_first_wrong.nd rfl (by first | exact Or.inl rfl | exact Or.inr rfl)) pgs_nil))) (pss_one (ps_if (PW.pt (pw_or (pt_cmpR op_eq (pv 3) (pv 1) (nomark _)) (pw_or1 (pt_not (pt_val (pe_callL (i := 2) Fg hr rfl (by first | exact Or.inl rfl | exact Or.inr rfl) kg bg .nil pass0 (pa_cons (pv 4) pa_nil))))))) (pss_one (ps_ret (pv 3))) pss_nil)))
  (pss_one (ps_ret (pe_ifExp (pt_cmpR op_lt (pe_callB (r := rLenQ K) call_len_seq (by rfl) X.len bt_len (pa_cons (pv 0) pa_nil)) (pv 1) (nomark _)) (pe_callB (r := rLenQ K) call_len_seq (by rfl) X.len bt_len (pa_cons (pv 0) pa_nil)) pe_non))))), ?_⟩
  rintro os ⟨d, many, rfl⟩
  cases hk : kTup d with
  | false =>
    have hx : firstX p many d = .int 0 := by
      cases d <;> first | rfl | cases hk
    exact s_seq (s_if (ET.is (t_not (t_B (e_isi e_var (kb_tup d)))) (by rw [hk]; try rfl)) (fun _ => s_ret e_int ⟨d, many, rfl, hx.symm⟩) fun h => by cases h)
  | true =>
  obtain ⟨ts, rfl⟩ : ∃ ts, d = .tuple ts := by
    cases d <;> first | exact ⟨_, rfl⟩ | cases hk
  refine s_seq (s_if (t_not (t_B (e_isi e_var (kb_tup (.tuple ts))))) (fun h => by cases h) fun _ => s_next ?_)
  refine s_seq (s_for (vs := [3, 4]) (fun i G' => ∃ x y, G' = [some (.dat (.tuple ts)), some (.dat (.int many)), some (.fn g), x, y] ∧ firstGo p many ts.length i (ts.drop i) = firstX p many (.tuple ts)) (i_enumT (a_cons e_var a_nil)) ⟨none, none, rfl, rfl⟩ ?_ ?_)
  · rintro i d G' hi ⟨v, hp, rfl⟩ ⟨x, y, rfl, hgo⟩
    rw [firstGo_drop hp] at hgo
    refine ⟨_, tg_pair (by decide) (by decide), ?_⟩
    refine s_if (t_or (a := decide ((i : Int) = many)) (b := !p v) (t_B (E.is (e_eq (d := .int (i : Nat)) (e := .int many) e_var e_var rfl) rfl)) fun _ => t_not (t_B (E.is (e_callLD (F := F_is p) (ds := [v]) rfl (a_cons e_var a_nil) ⟨v, rfl⟩) rfl))) (fun h => ?_) fun h => ?_
    · have hc : (i : Int) = many ∨ p v = false := by
        rw [Bool.or_eq_true] at h
        rcases h with h | h
        · exact .inl (of_decide_eq_true h)
        · exact .inr (by simpa using h)
      rw [if_pos hc] at hgo
      exact s_ret e_var ⟨_, _, rfl, hgo⟩
    · rw [Bool.or_eq_false_iff] at h
      have e1 := of_decide_eq_false h.1
      have e2 : p v = true := by simpa using h.2
      rw [if_neg (by rintro (z | z); exact e1 z; rw [e2] at z; cases z)] at hgo
      exact s_next ⟨_, _, rfl, hgo⟩
  · rintro G' ⟨x, y, rfl, hgo⟩
    rw [List.drop_length] at hgo
    have hgo : (if ((ts.length : Nat) : Int) < many then PyData.int ts.length else .none) = firstX p many (.tuple ts) := hgo
    by_cases hz : ((ts.length : Nat) : Int) < many
    · rw [if_pos hz] at hgo
      exact s_ret (d := .int ts.length) (e_if (b := true) (t_B (E.is (e_cmp (f := fun i j => decide (i < j)) (e_len (a_cons e_var a_nil) (.inr rfl)) e_var) (congrArg PyData.bool (decide_eq_true hz)))) (fun _ => e_len (a_cons e_var a_nil) (.inr rfl)) fun h => by cases h) ⟨_, _, rfl, hgo⟩
    · rw [if_neg hz] at hgo
      exact s_ret (d := .none) (e_if (b := false) (t_B (E.is (e_cmp (f := fun i j => decide (i < j)) (e_len (a_cons e_var a_nil) (.inr rfl)) e_var) (congrArg PyData.bool (decide_eq_false hz)))) (fun h => by cases h) fun _ => e_non) ⟨_, _, rfl, hgo⟩
theorem firstGo_num {p : PyData → Bool} {many : Nat} {all : Nat} : ∀ {ts : List PyData} {i : Nat}, i ≤ many → i + ts.length = all → firstGo p many all i ts = .none ∨ ∃ j : Nat, firstGo p many all i ts = .int (j : Nat) ∧ j ≤ many
  | [], i, hi, he => by
    have he : i = all := he
    show (if (all : Int) < (many : Int) then PyData.int all else .none) = .none ∨ ∃ j : Nat, (if (all : Int) < (many : Int) then PyData.int all else .none) = .int (j : Nat) ∧ j ≤ many
    by_cases h : (all : Int) < (many : Int)
    · rw [if_pos h]
      exact .inr ⟨all, rfl, by omega⟩
    · rw [if_neg h]
      exact .inl rfl
  | v :: r, i, hi, he => by
    have he : i + (r.length + 1) = all := he
    show (if (i : Int) = (many : Int) ∨ p v = false then PyData.int (i : Nat) else firstGo p many all (i + 1) r) = .none ∨ ∃ j : Nat, (if (i : Int) = (many : Int) ∨ p v = false then PyData.int (i : Nat) else firstGo p many all (i + 1) r) = .int (j : Nat) ∧ j ≤ many
    by_cases h : (i : Int) = (many : Int) ∨ p v = false
    · rw [if_pos h]
      exact .inr ⟨i, rfl, hi⟩
    · rw [if_neg h]
      have n : ¬ i = many := fun z => h (.inl (by rw [z]))
      exact firstGo_num (by omega) (by omega)
theorem firstX_num {p : PyData → Bool} {many : Nat} {d : PyData} : firstX p many d = .none ∨ ∃ j : Nat, firstX p many d = .int (j : Nat) ∧ j ≤ many := by
  cases d with
  | tuple ts => exact firstGo_num (Nat.zero_le _) (Nat.zero_add _)
  | _ => exact .inr ⟨0, rfl, Nat.zero_le _⟩
/-! check_answers, whatever is handed in -/
theorem sc_check_answers : FnScope ["told", "many", "number"] ["told", "many"] (defScope s_check_answers) := ⟨rfl, rfl, rfl, by decide +kernel, rfl, by decide +kernel, by decide +kernel⟩
theorem num_answers : ∀ i : Nat, i ≤ 16 → NumOk "no answers, by " i := by
  have h : ∀ i : Nat, i < 17 → ((i : Nat) : Int).natAbs.log2 < 1920 ∧ ((Str.empty ++ ("no answers, by " : Str)) ++ (toString ((i : Nat) : Int) : String)).length ≤ sizeLine := by decide +kernel
  intro i hi
  exact h i (by omega)
abbrev sx_check_answers (K : PySem.W.Frag) (T : List (Addr × Str)) (CA : Addr) : Sp := spX K T (fun os => ∃ (d : PyData) (many : Nat), os = dats [d, .int many] ∧ many ≤ 16) (fun os r => ∃ (d : PyData) (many : Nat), os = dats [d, .int many] ∧ firstX isAnsD many d = .none ∧ r = .none)
  (fun os x => ∃ (d : PyData) (many j : Nat), os = dats [d, .int many] ∧ firstX isAnsD many d = .int j ∧ x = ⟨CA, some [("number", .int j)]⟩)
theorem ok_check_answersX {f f1 g CA fI : Addr} {fd fd1 fdI : FuncData} (Fn : Fun K "check_answers" "check_answers" s_check_answers f fd)
    (F1 : FnOk P w K mg base CX0 3 f1 fd1 ["values", "many", "is_right"] (sp_firstX K T g isAnsD)) (k1 : PySem.W.keepIn K (.ref f1) = true) (b1 : Binds K fd1 ["values", "many", "is_right"] []) (m1 : mg "first_wrong" = some (.ref f1)) (mA : mg "is_answer" = some (.ref g)) (L : ClsI K P mg "BadAnswers" CA fI fdI "number" "number" "no answers, by ") :
    FnOk P w K mg base (L2.CX P w) 4 f fd ["told", "many"] (sx_check_answers K T CA) := by
  refine ok_defX Fn sc_check_answers (fun os ⟨_, _, e, _⟩ => by rw [e]; rfl) fun cdv A outer s H E' hr => ?_
  have hr2 : Room 2 (A.deeper (envOfC "check_answers" (defScope s_check_answers) s.heap.objs.size f cdv)) := hr.mono (by decide)
  refine ⟨_, (pss_cons (ps_set (i := 2) sc_check_answers.nd rfl (by first | exact Or.inl rfl | exact Or.inr rfl) (pe_call F1 hr (by rfl) m1 k1 b1 .nil pass0 (pa_cons (pv 0) (pa_cons (pv 1) (pa_cons (pe_glob (v := .ref g) (by rfl) mA rfl) pa_nil)))))
  (pss_one (ps_if (pt_cmp (pc_notN (pv 2)) rfl) (pss_one (ps_raise rfl (takes_of (E := E') rfl rfl rfl rfl) (pmk_oex L.o L.i L.t (fn_init (w := w) (base := base) L.T) hr2 L.b .nil pass0 (by rfl) L.m (pa_cons (pv 2) pa_nil)))) pss_nil))), ?_⟩
  rintro os ⟨d, many, rfl, hm⟩
  refine sx_seq (sx_of (s_asg (d := firstX isAnsD many d) (e_call (os := [.dat d, .dat (.int many), .fn g]) (a_cons e_var (a_cons e_var (a_fn a_nil))) ⟨d, many, rfl⟩ fun r ⟨d', m', e, er⟩ => ?_) ?_))
  · cases e
    exact er
  rcases firstX_num (p := isAnsD) (many := many) (d := d) with h | ⟨j, h, hj⟩
  · rw [h]
    exact sx_if (t_B (b := false) (E.is (e_notN e_var) rfl)) (fun h => by cases h) fun _ => sx_of (s_next ⟨d, many, rfl, h, rfl⟩)
  · rw [h]
    exact sx_if (t_B (b := true) (E.is (e_notN e_var) rfl)) (fun _ => sx_raise (mx_ini (i := (j : Nat)) (a_cons e_var a_nil) (num_answers j (by omega)) ⟨d, many, j, rfl, h, rfl⟩)) fun h => by cases h
/-! check_chances, whatever is handed in -/
def isChaD (d : PyData) : Bool := withinD d 0 100
theorem sc_is_chance : FnScope ["value"] ["value"] (defScope s_is_chance) := ⟨rfl, rfl, rfl, by decide +kernel, rfl, by decide +kernel, by decide +kernel⟩
theorem ok_is_chance {f f1 : Addr} {fd fd1 : FuncData} (Fn : Fun K "is_chance" "is_chance" s_is_chance f fd) (X : Txt mg) (F1 : FnOk P w K mg base CX0 1 f1 fd1 ["value", "low", "high"] (sp_within K T)) (k1 : PySem.W.keepIn K (.ref f1) = true) (b1 : Binds K fd1 ["value", "low", "high"] []) (m1 : mg "is_within" = some (.ref f1)) :
    FnOk P w K mg base CX0 2 f fd ["value"] (sp_is K T isChaD) := by
  refine ok_defD Fn sc_is_chance (fun ds ⟨_, e⟩ => by rw [e]; rfl) fun cdv A outer s H E' hr => ?_
  obtain ⟨th, mh⟩ := X.HUNDRED
  refine ⟨_, (pss_one (ps_ret (pe_call F1 hr (by rfl) m1 k1 b1 .nil pass0 (pa_cons (pv 0) (pa_cons pe_int (pa_cons (pe_glob (v := .int 100) (by rfl) mh ⟨_, rfl⟩) pa_nil)))))), ?_⟩
  rintro ds ⟨v, rfl⟩
  exact s_ret (E.is (e_callD (F := F_within) (ds := [v, .int 0, .int 100]) (a_cons e_var (a_cons e_int (a_cons e_int a_nil))) ⟨v, 0, 100, rfl⟩) rfl) rfl
theorem sc_check_chances : FnScope ["chances", "things", "number"] ["chances", "things"] (defScope s_check_chances) := ⟨rfl, rfl, rfl, by decide +kernel, rfl, by decide +kernel, by decide +kernel⟩
theorem num_chances : ∀ i : Nat, i ≤ 10 → NumOk "no chances, by " i := by
  have h : ∀ i : Nat, i < 11 → ((i : Nat) : Int).natAbs.log2 < 1920 ∧ ((Str.empty ++ ("no chances, by " : Str)) ++ (toString ((i : Nat) : Int) : String)).length ≤ sizeLine := by decide +kernel
  intro i hi
  exact h i (by omega)
abbrev sx_check_chances (K : PySem.W.Frag) (T : List (Addr × Str)) (CA : Addr) : Sp := spX K T (fun os => ∃ (d : PyData) (many : Nat), os = dats [d, .int many] ∧ many ≤ 10) (fun os r => ∃ (d : PyData) (many : Nat), os = dats [d, .int many] ∧ firstX isChaD many d = .none ∧ r = .none)
  (fun os x => ∃ (d : PyData) (many j : Nat), os = dats [d, .int many] ∧ firstX isChaD many d = .int j ∧ x = ⟨CA, some [("number", .int j)]⟩)
theorem ok_check_chancesX {f f1 g CA fI : Addr} {fd fd1 fdI : FuncData} (Fn : Fun K "check_chances" "check_chances" s_check_chances f fd)
    (F1 : FnOk P w K mg base CX0 3 f1 fd1 ["values", "many", "is_right"] (sp_firstX K T g isChaD)) (k1 : PySem.W.keepIn K (.ref f1) = true) (b1 : Binds K fd1 ["values", "many", "is_right"] []) (m1 : mg "first_wrong" = some (.ref f1)) (mA : mg "is_chance" = some (.ref g)) (L : ClsI K P mg "BadChances" CA fI fdI "number" "number" "no chances, by ") :
    FnOk P w K mg base (L2.CX P w) 4 f fd ["chances", "things"] (sx_check_chances K T CA) := by
  refine ok_defX Fn sc_check_chances (fun os ⟨_, _, e, _⟩ => by rw [e]; rfl) fun cdv A outer s H E' hr => ?_
  have hr2 : Room 2 (A.deeper (envOfC "check_chances" (defScope s_check_chances) s.heap.objs.size f cdv)) := hr.mono (by decide)
  refine ⟨_, (pss_cons (ps_set (i := 2) sc_check_chances.nd rfl (by first | exact Or.inl rfl | exact Or.inr rfl) (pe_call F1 hr (by rfl) m1 k1 b1 .nil pass0 (pa_cons (pv 0) (pa_cons (pv 1) (pa_cons (pe_glob (v := .ref g) (by rfl) mA rfl) pa_nil)))))
  (pss_one (ps_if (pt_cmp (pc_notN (pv 2)) rfl) (pss_one (ps_raise rfl (takes_of (E := E') rfl rfl rfl rfl) (pmk_oex L.o L.i L.t (fn_init (w := w) (base := base) L.T) hr2 L.b .nil pass0 (by rfl) L.m (pa_cons (pv 2) pa_nil)))) pss_nil))), ?_⟩
  rintro os ⟨d, many, rfl, hm⟩
  refine sx_seq (sx_of (s_asg (d := firstX isChaD many d) (e_call (os := [.dat d, .dat (.int many), .fn g]) (a_cons e_var (a_cons e_var (a_fn a_nil))) ⟨d, many, rfl⟩ fun r ⟨d', m', e, er⟩ => ?_) ?_))
  · cases e
    exact er
  rcases firstX_num (p := isChaD) (many := many) (d := d) with h | ⟨j, h, hj⟩
  · rw [h]
    exact sx_if (t_B (b := false) (E.is (e_notN e_var) rfl)) (fun h => by cases h) fun _ => sx_of (s_next ⟨d, many, rfl, h, rfl⟩)
  · rw [h]
    exact sx_if (t_B (b := true) (E.is (e_notN e_var) rfl)) (fun _ => sx_raise (mx_ini (i := (j : Nat)) (a_cons e_var a_nil) (num_chances j (by omega)) ⟨d, many, j, rfl, h, rfl⟩)) fun h => by cases h
/-! check_most -/
theorem sc_check_most : FnScope ["most"] ["most"] (defScope s_check_most) := ⟨rfl, rfl, rfl, by decide +kernel, rfl, by decide +kernel, by decide +kernel⟩
abbrev sx_check_most (K : PySem.W.Frag) (T : List (Addr × Str)) (CC : Addr) : Sp := spX K T (fun os => ∃ d, os = dats [d]) (fun os r => ∃ d, os = dats [d] ∧ withinD d 0 3 = true ∧ r = .none) (fun os x => ∃ d, os = dats [d] ∧ withinD d 0 3 = false ∧ x = ⟨CC, none⟩)
theorem most_txt : Txt2 "no number from " " to " 0 3 := ⟨by decide +kernel, by decide +kernel, by decide +kernel, by decide +kernel, by decide +kernel, by decide +kernel⟩
theorem ok_check_mostX {f f1 CC : Addr} {fd fd1 : FuncData} (Fn : Fun K "check_most" "check_most" s_check_most f fd) (X : Txt mg) (F1 : FnOk P w K mg base (L2.CX P w) 2 f1 fd1 ["value", "low", "high"] (sx_check_count K T CC)) (k1 : PySem.W.keepIn K (.ref f1) = true) (b1 : Binds K fd1 ["value", "low", "high"] []) (m1 : mg "check_count" = some (.ref f1)) :
    FnOk P w K mg base (L2.CX P w) 3 f fd ["most"] (sx_check_most K T CC) := by
  refine ok_defX Fn sc_check_most (fun os ⟨_, e⟩ => by rw [e]; rfl) fun cdv A outer s H E' hr => ?_
  obtain ⟨tb, mb⟩ := X.MOST_BAD
  refine ⟨_, (pss_one (ps_expr (pe_call F1 hr (by rfl) m1 k1 b1 .nil (passes_call (takes_of (E := E') rfl rfl rfl rfl) fun _ _ _ _ h => h) (pa_cons (pv 0) (pa_cons pe_int (pa_cons (pe_glob (v := .int 3) (by rfl) mb ⟨_, rfl⟩) pa_nil)))))), ?_⟩
  rintro os ⟨d, rfl⟩
  refine sx_drop (ex_call (P := fun _ => withinD d 0 3 = true) (os := dats [d, .int 0, .int 3]) (a_cons e_var (a_cons e_int (a_cons e_int a_nil))) ⟨d, 0, 3, rfl, most_txt⟩ (fun r ⟨d', lo, hi, e, h, _⟩ => ?_) (fun x ⟨d', lo, hi, e, h, ex⟩ => ?_)) fun _ h => ⟨d, rfl, h, rfl⟩
  · have z := dats_inj e
    cases z
    exact h
  · have z := dats_inj e
    cases z
    exact ⟨d, rfl, h, ex⟩
end
end K17

namespace K17
open PySem PySem.Spec L2 Dv DvC DvT
open PyProof.Rows hiding St
section
variable {P : Program} {w : World} {K : PySem.W.Frag} {mg : Str → Option Value} {base : Heap} {T : List (Addr × Str)}
/-- a test of a list: whether it is empty -/
abbrev tTruQ (K : PySem.W.Frag) (ta : TE) : TT := fun σ H Q => ta σ H fun x H' => ∃ k, TruV K x H' k ∧ Q k H'
theorem t_testL {G : Dv.Ctx} {te : TE} {ds : List PyData} (h : E K T te G (· = .list ds)) : ET K T (tTruQ K te) G (· = !ds.isEmpty) := fun W σ H s j Q q => h W σ H s j _ fun v d H1 e1 j1 dv p => by
  subst p
  obtain ⟨a, xs, rfl, nx, ha, al⟩ := dv.lst_inv
  refine ⟨!ds.isEmpty, .inl ⟨xs, SqL.of ha, ?_⟩, q _ H1 e1 j1 rfl⟩
  cases al <;> rfl
/-! weights -/
theorem ints_inj : ∀ {a b : List Int}, a.map PyData.int = b.map PyData.int → a = b
  | [], [], _ => rfl
  | [], _ :: _, h => by cases h
  | _ :: _, [], h => by cases h
  | x :: xs, y :: ys, h => by
    have h' := List.cons.inj (show PyData.int x :: xs.map PyData.int = PyData.int y :: ys.map PyData.int from h)
    rw [PyData.int.inj h'.1, ints_inj h'.2]
def hasD (l : List PyData) (i : Nat) : Bool := l.any fun z => PyData.eqv z (.int (i : Nat))
def lotW (l : List PyData) : Nat → Int → List Int → Int
  | _, w, [] => w
  | i, w, c :: r => lotW l (i + 1) (w * (if hasD l i = true then c else 100 - c)) r
theorem lotW_drop {l : List PyData} {cs : List Int} {i : Nat} {c w : Int} (h : cs[i]? = some c) : lotW l i w (cs.drop i) = lotW l (i + 1) (w * (if hasD l i = true then c else 100 - c)) (cs.drop (i + 1)) := by
  obtain ⟨h1, h2⟩ := List.getElem?_eq_some_iff.mp h
  rw [List.drop_eq_getElem_cons h1, h2]
  rfl
theorem pct {b : Bool} {c : Int} (h : 0 ≤ c ∧ c ≤ 100) : 0 ≤ (if b = true then c else 100 - c) ∧ (if b = true then c else 100 - c) ≤ 100 := by
  cases b
  · rw [if_neg Bool.false_ne_true]
    omega
  · rw [if_pos rfl]
    exact h
theorem step_le {w c B : Int} (h0 : 0 ≤ w) (hB : w ≤ B) (hc : 0 ≤ c ∧ c ≤ 100) : 0 ≤ w * c ∧ w * c ≤ B * 100 := ⟨Int.mul_nonneg h0 hc.1, Int.mul_le_mul hB hc.2 hc.1 (by omega)⟩
theorem lotW_le {l : List PyData} : ∀ {cs : List Int} {i : Nat} {w B : Int}, 0 ≤ w → w ≤ B → (∀ c ∈ cs, 0 ≤ c ∧ c ≤ 100) → 0 ≤ lotW l i w cs ∧ lotW l i w cs ≤ B * 100 ^ cs.length
  | [], i, w, B, h0, hB, _ => ⟨h0, by rw [List.length_nil, Int.pow_zero, Int.mul_one]; exact hB⟩
  | c :: r, i, w, B, h0, hB, h => by
    obtain ⟨a, b⟩ := step_le h0 hB (pct (b := hasD l i) (h c (List.mem_cons_self ..)))
    obtain ⟨x, y⟩ := lotW_le (l := l) (i := i + 1) a b fun d hd => h d (List.mem_cons_of_mem _ hd)
    refine ⟨x, Int.le_trans y ?_⟩
    rw [List.length_cons, Int.pow_succ, Int.mul_assoc, Int.mul_comm 100]
    exact Int.le_refl _
def toldW (wr : Int) : Int → List PyData → List PyData → Int
  | w, t :: ts, r :: rs => toldW wr (if isNone t = true then w else w * (if eqD t r = true then 100 - wr else wr)) ts rs
  | w, _, _ => w
theorem toldW_drop {wr w : Int} {ts rs : List PyData} {i : Nat} {t r : PyData} (h : ts[i]? = some t) (h' : rs[i]? = some r) : toldW wr w (ts.drop i) (rs.drop i) = toldW wr (if isNone t = true then w else w * (if eqD t r = true then 100 - wr else wr)) (ts.drop (i + 1)) (rs.drop (i + 1)) := by
  obtain ⟨h1, h2⟩ := List.getElem?_eq_some_iff.mp h
  obtain ⟨h3, h4⟩ := List.getElem?_eq_some_iff.mp h'
  rw [List.drop_eq_getElem_cons h1, h2, List.drop_eq_getElem_cons h3, h4]
  rfl
theorem toldW_le {wr : Int} (hw : 0 ≤ wr ∧ wr ≤ 100) : ∀ {ts rs : List PyData} {w B : Int}, 0 ≤ w → w ≤ B → 0 ≤ toldW wr w ts rs ∧ toldW wr w ts rs ≤ B * 100 ^ ts.length
  | [], rs, w, B, h0, hB => ⟨by unfold toldW; exact h0, by unfold toldW; rw [List.length_nil, Int.pow_zero, Int.mul_one]; exact hB⟩
  | t :: ts, [], w, B, h0, hB => by
    have hB0 : 0 ≤ B := Int.le_trans h0 hB
    refine ⟨h0, Int.le_trans hB ?_⟩
    have p : (1 : Int) ≤ 100 ^ (t :: ts).length := (show (0 : Int) < 100 ^ (t :: ts).length from Int.pow_pos (by decide))
    calc B = B * 1 := (Int.mul_one B).symm
      _ ≤ B * 100 ^ (t :: ts).length := Int.mul_le_mul_of_nonneg_left p hB0
  | t :: ts, r :: rs, w, B, h0, hB => by
    have hB0 : 0 ≤ B := Int.le_trans h0 hB
    have st : 0 ≤ (if isNone t = true then w else w * (if eqD t r = true then 100 - wr else wr)) ∧ (if isNone t = true then w else w * (if eqD t r = true then 100 - wr else wr)) ≤ B * 100 := by
      cases isNone t
      · rw [if_neg Bool.false_ne_true]
        refine step_le h0 hB ?_
        cases eqD t r
        · rw [if_neg Bool.false_ne_true]; exact hw
        · rw [if_pos rfl]; omega
      · rw [if_pos rfl]
        omega
    obtain ⟨x, y⟩ := toldW_le hw (ts := ts) (rs := rs) st.1 st.2
    refine ⟨x, Int.le_trans y ?_⟩
    rw [List.length_cons, Int.pow_succ, Int.mul_assoc, Int.mul_comm 100]
    exact Int.le_refl _
theorem sc_lot_weight : FnScope ["lot", "chances", "weight", "thing", "chance"] ["lot", "chances"] (defScope s_lot_weight) := ⟨rfl, rfl, rfl, by decide +kernel, rfl, by decide +kernel, by decide +kernel⟩
abbrev sp_lot_weight (K : PySem.W.Frag) (T : List (Addr × Str)) : Sp := spA K T (fun os => ∃ (l : List PyData) (cs : List Int), os = dats [.tuple l, .tuple (cs.map .int)] ∧ l.all flatD = true ∧ (∀ c ∈ cs, 0 ≤ c ∧ c ≤ 100) ∧ cs.length ≤ 1000)
  (fun os d => ∀ (l : List PyData) (cs : List Int), os = dats [.tuple l, .tuple (cs.map .int)] → d = .int (lotW l 0 1 cs))
theorem ok_lot_weight {f : Addr} {fd : FuncData} (Fn : Fun K "lot_weight" "lot_weight" s_lot_weight f fd) (X : Txt mg) : FnOk P w K mg base CX0 1 f fd ["lot", "chances"] (sp_lot_weight K T) := by
  refine ok_def Fn sc_lot_weight (fun os ⟨_, _, e, _⟩ => by rw [e]; rfl) fun cdv A outer s H E' hr => ?_
  obtain ⟨th, mh⟩ := X.HUNDRED
  refine ⟨_, (pss_cons (ps_set (i := 2) sc_lot_weight.nd rfl (by first | exact Or.inl rfl | exact Or.inr rfl) pe_int)
  (pss_cons (ps_for PassesOwn.never rfl (pi_enumT (by rfl) X.enumerate (pa_cons (pv 1) pa_nil)) (pg_tup rfl (pgs_cons (pg_name (i := 3) sc_lot_weight.nd rfl (by first | exact Or.inl rfl | exact Or.inr rfl)) (pgs_cons (pg_name (i := 4) sc_lot_weight.nd rfl (by first | exact Or.inl rfl | exact Or.inr rfl)) pgs_nil))) (pss_one (ps_set (i := 2) sc_lot_weight.nd rfl (by first | exact Or.inl rfl | exact Or.inr rfl) (pe_op (r := rI CMul fun i j => .int (i * j)) op_mul (pv 2) (pe_ifExp (pt_cmpR (r := rIn K false) op_in_seq (pv 3) (pv 0) (by rfl)) (pv 4) (pe_op (r := rI0 fun i j => .int (i - j)) op_sub (pe_glob (v := .int 100) (by rfl) mh ⟨_, rfl⟩) (pv 4)))))))
  (pss_one (ps_ret (pv 2))))), ?_⟩
  rintro os ⟨l, cs, rfl, hf, hc, hn⟩
  refine s_seq (s_asg e_int ?_)
  refine s_seq (s_for (vs := [3, 4]) (fun i G' => ∃ w x y, G' = [some (.dat (.tuple l)), some (.dat (.tuple (cs.map .int))), some (.dat (.int w)), x, y] ∧ lotW l i w (cs.drop i) = lotW l 0 1 cs) (i_enumT (a_cons e_var a_nil)) ⟨1, none, none, rfl, rfl⟩ ?_ ?_)
  · rintro i d G' hi ⟨v, hp, rfl⟩ ⟨w, x, y, rfl, hw⟩
    refine ⟨_, tg_pair (by decide) (by decide), ?_⟩
    rw [List.getElem?_map] at hp
    obtain ⟨c, hci, rfl⟩ := Option.map_eq_some_iff.mp hp
    have hcc := hc c (List.mem_of_getElem? hci)
    have hb := pct (b := hasD l i) hcc
    rw [lotW_drop hci] at hw
    refine s_asg (e_mul (i := w) (j := if hasD l i = true then c else 100 - c) e_var (e_if (b := hasD l i) (t_B (E.is (e_inSeq (ds := l) (e_var (i := 3)) (e_var (i := 0)) (.inr rfl) rfl hf) rfl)) (fun h => E.is (e_var (i := 4)) (by rw [if_pos h])) fun h => E.is (e_sub (e_int (i := 100)) (e_var (i := 4))) (by rw [if_neg (by rw [h]; decide)])) (.inr ⟨by omega, by omega⟩)) ⟨_, _, _, rfl, hw⟩
  · rintro G' ⟨w, x, y, rfl, hw⟩
    rw [List.drop_of_length_le (by rw [List.length_map]; exact Nat.le_refl _)] at hw
    refine s_ret e_var fun l' cs' e => ?_
    have z := dats_inj e
    have e1 := PyData.tuple.inj (List.cons.inj z).1
    have e2 := ints_inj (PyData.tuple.inj (List.cons.inj (List.cons.inj z).2).1)
    subst e1 e2
    rw [← hw]
    rfl
theorem sc_told_weight : FnScope ["told", "right", "wrong", "weight", "one", "other"] ["told", "right", "wrong"] (defScope s_told_weight) := ⟨rfl, rfl, rfl, by decide +kernel, rfl, by decide +kernel, by decide +kernel⟩
abbrev sp_told_weight (K : PySem.W.Frag) (T : List (Addr × Str)) : Sp := spA K T (fun os => ∃ (ts rs : List PyData) (wr : Int), os = dats [.tuple ts, .tuple rs, .int wr] ∧ ts.length = rs.length ∧ (∀ t ∈ ts, isAnsD t = true) ∧ (∀ r ∈ rs, IntD r) ∧ (0 ≤ wr ∧ wr ≤ 100) ∧ ts.length ≤ 1000)
  (fun os d => ∀ (ts rs : List PyData) (wr : Int), os = dats [.tuple ts, .tuple rs, .int wr] → d = .int (toldW wr 1 ts rs))
theorem ans_cases {d : PyData} (h : isAnsD d = true) : d = .none ∨ ∃ i, d = .int i := by
  cases d with
  | none => exact .inl rfl
  | int i => exact .inr ⟨i, rfl⟩
  | _ => cases h
theorem ok_told_weight {f : Addr} {fd : FuncData} (Fn : Fun K "told_weight" "told_weight" s_told_weight f fd) (X : Txt mg) : FnOk P w K mg base CX0 1 f fd ["told", "right", "wrong"] (sp_told_weight K T) := by
  refine ok_def Fn sc_told_weight (fun os ⟨_, _, _, e, _⟩ => by rw [e]; rfl) fun cdv A outer s H E' hr => ?_
  obtain ⟨th, mh⟩ := X.HUNDRED
  refine ⟨_, (pss_cons (ps_set (i := 3) sc_told_weight.nd rfl (by first | exact Or.inl rfl | exact Or.inr rfl) pe_int)
  (pss_cons (ps_for PassesOwn.never rfl (RZ.pi_zipA (by rfl) X.zip (pa_cons (pv 0) (pa_cons (pv 1) pa_nil))) (pg_tup rfl (pgs_cons (pg_name (i := 4) sc_told_weight.nd rfl (by first | exact Or.inl rfl | exact Or.inr rfl)) (pgs_cons (pg_name (i := 5) sc_told_weight.nd rfl (by first | exact Or.inl rfl | exact Or.inr rfl)) pgs_nil))) (pss_one (ps_if (pt_cmp (pc_notN (pv 4)) rfl) (pss_one (ps_set (i := 3) sc_told_weight.nd rfl (by first | exact Or.inl rfl | exact Or.inr rfl) (pe_op (r := rI CMul fun i j => .int (i * j)) op_mul (pv 3) (pe_ifExp (pt_cmpR op_eq (pv 4) (pv 5) (nomark _)) (pe_op (r := rI0 fun i j => .int (i - j)) op_sub (pe_glob (v := .int 100) (by rfl) mh ⟨_, rfl⟩) (pv 2)) (pv 2))))) pss_nil)))
  (pss_one (ps_ret (pv 3))))), ?_⟩
  rintro os ⟨ts, rs, wr, rfl, hl, ht, hr', hw, hn⟩
  refine s_seq (s_asg e_int ?_)
  refine s_seq (s_for (vs := [4, 5]) (fun i G' => ∃ w x y, G' = [some (.dat (.tuple ts)), some (.dat (.tuple rs)), some (.dat (.int wr)), some (.dat (.int w)), x, y] ∧ toldW wr w (ts.drop i) (rs.drop i) = toldW wr 1 ts rs) (i_zipT (a_cons e_var (a_cons e_var a_nil)) hl) ⟨1, none, none, rfl, rfl⟩ ?_ ?_)
  · rintro i d G' hi ⟨t, r, h1, h2, rfl⟩ ⟨w, x, y, rfl, hq⟩
    refine ⟨_, tg_pair (by decide) (by decide), ?_⟩
    rw [toldW_drop h1 h2] at hq
    obtain ⟨ri, rfl⟩ := hr' r (List.mem_of_getElem? h2)
    rcases ans_cases (ht t (List.mem_of_getElem? h1)) with rfl | ⟨ti, rfl⟩
    · exact s_if (b := false) (t_B (E.is (e_notN e_var) rfl)) (fun h => by cases h) fun _ => s_next ⟨_, _, _, rfl, hq⟩
    · refine s_if (b := true) (t_B (E.is (e_notN e_var) rfl)) (fun _ => ?_) (fun h => by cases h)
      have hb : 0 ≤ (if eqD (.int ti) (.int ri) = true then 100 - wr else wr) ∧ (if eqD (.int ti) (.int ri) = true then 100 - wr else wr) ≤ 100 := by
        split <;> omega
      refine s_asg (e_mul (i := w) (j := if eqD (.int ti) (.int ri) = true then 100 - wr else wr) e_var (e_if (b := eqD (.int ti) (.int ri)) (t_B (e_eq (e_var (i := 4)) (e_var (i := 5)) rfl)) (fun h => E.is (e_sub (e_int (i := 100)) (e_var (i := 2))) (by rw [if_pos h])) fun h => E.is (e_var (i := 2)) (by rw [if_neg (by rw [h]; decide)])) (.inr ⟨by omega, by omega⟩)) ⟨_, _, _, rfl, hq⟩
  · rintro G' ⟨w, x, y, rfl, hq⟩
    rw [List.drop_of_length_le (Nat.le_refl _)] at hq
    refine s_ret e_var fun ts' rs' wr' e => ?_
    have z := dats_inj e
    have e1 := PyData.tuple.inj (List.cons.inj z).1
    have e2 := PyData.tuple.inj (List.cons.inj (List.cons.inj z).2).1
    have e3 := PyData.int.inj (List.cons.inj (List.cons.inj (List.cons.inj z).2).2).1
    subst e1 e2 e3
    rw [← hq]
    rfl
/-! rows of lots and their weights -/
theorem rows_inj : ∀ {a b : List (PyData × Int)}, a.map rowD = b.map rowD → a = b
  | [], [], _ => rfl
  | [], _ :: _, h => by cases h
  | _ :: _, [], h => by cases h
  | x :: xs, y :: ys, h => by
    have h' := List.cons.inj (show rowD x :: xs.map rowD = rowD y :: ys.map rowD from h)
    have q := PyData.tuple.inj h'.1
    have q1 := (List.cons.inj q).1
    have q2 := PyData.int.inj (List.cons.inj (List.cons.inj q).2).1
    have e : x = y := by
      obtain ⟨a, b⟩ := x
      obtain ⟨c, d⟩ := y
      simp only at q1 q2
      rw [q1, q2]
    rw [e, rows_inj h'.2]
def sumW (rs : List (PyData × Int)) : Int := (rs.map (·.2)).sum
theorem sc_sum_of : FnScope ["rows", "_", "weight"] ["rows"] (defScope s_sum_of) := ⟨rfl, rfl, rfl, by decide +kernel, rfl, by decide +kernel, by decide +kernel⟩
abbrev sp_sum_of (K : PySem.W.Frag) (T : List (Addr × Str)) : Sp := spA K T (fun os => ∃ rs : List (PyData × Int), os = dats [.list (rs.map rowD)] ∧ rs.length ≤ 1000) (fun os d => ∀ rs : List (PyData × Int), os = dats [.list (rs.map rowD)] → d = .int (sumW rs))
def sndD : PyData → PyData
  | .tuple [_, b] => b
  | _ => .none
theorem ok_sum_of {f : Addr} {fd : FuncData} (Fn : Fun K "sum_of" "sum_of" s_sum_of f fd) (X : Txt mg) : FnOk P w K mg base CX0 1 f fd ["rows"] (sp_sum_of K T) := by
  refine ok_def Fn sc_sum_of (fun os ⟨_, e, _⟩ => by rw [e]; rfl) fun cdv A outer s H E' hr => ?_
  refine ⟨_, (pss_one (ps_ret (pe_callB (r := rSum K) (cr_sum rfl) (by rfl) X.sum bt_sum (pa_cons (pe_lc (g := gTup K 2 (gCons (gName 1) (gCons (gName 2) gNil))) (own := [("_", 1), ("weight", 2)]) rfl sc_sum_of.nd (pi_list (pv 0)) (blkOk_by (N := ["rows", "_", "weight"]) (sc := defScope s_sum_of) (by decide +kernel)) (fun _ _ _ _ _ => (pg_tup rfl (pgs_cons (pg_name (i := 1) sc_sum_of.nd rfl (by first | exact Or.inl rfl | exact Or.inr rfl)) (pgs_cons (pg_name (i := 2) sc_sum_of.nd rfl (by first | exact Or.inl rfl | exact Or.inr rfl)) pgs_nil)))) (fun _ _ _ _ _ => pts_nil) (fun _ _ _ _ _ => (pv 2))) pa_nil)))), ?_⟩
  rintro os ⟨rs, rfl, hn⟩
  have em : (rs.map rowD).map sndD = (rs.map (·.2)).map PyData.int := by
    rw [List.map_map, List.map_map]
    rfl
  refine s_ret (e_sum (ns := rs.map (·.2)) (a_cons (E.is (EL.is (el_lcM (vs := [1, 2]) sndD (i_list e_var) (fun d hd => ?_) (by rw [List.length_map]; omega))) (congrArg PyData.list em)) a_nil)) fun rs' e => ?_
  · obtain ⟨p, hp, rfl⟩ := List.mem_map.mp hd
    exact ⟨_, tg_pair (by decide) (by decide), e_var⟩
  · have z := rows_inj (PyData.list.inj (List.cons.inj (dats_inj e)).1)
    subst z
    rfl
/-! weights -/
structure PreW (n : Nat) (ps ts : List PyData) (cs : List Int) (wr : Int) (m : Nat) : Prop where
  g : GoodP n ps
  tl : ts.length = ps.length
  ta : ∀ t ∈ ts, isAnsD t = true
  cl : cs.length = n
  ca : ∀ c ∈ cs, 0 ≤ c ∧ c ≤ 100
  w0 : 0 ≤ wr ∧ wr ≤ 100
  m3 : m ≤ 3
def lotL : PyData → List PyData
  | .tuple l => l
  | _ => []
def wtW (ps ts : List PyData) (cs : List Int) (wr : Int) (l : PyData) : Int := lotW (lotL l) 0 1 cs * toldW wr 1 ts (ps.map fun p => ansD p l)
def rowsW (n : Nat) (ps ts : List PyData) (cs : List Int) (wr : Int) (m : Nat) : List (PyData × Int) := ((lotsN n m).map fun l => (l, wtW ps ts cs wr l)).filter fun p => decide (0 < p.2)
theorem PreW.lot {n : Nat} {ps ts : List PyData} {cs : List Int} {wr : Int} {m : Nat} (h : PreW n ps ts cs wr m) {l : PyData} (hl : l ∈ lotsN n m) : ∃ xs, l = .tuple xs ∧ FlatT xs := by
  have := h.g.n10
  have := h.m3
  obtain ⟨js, rfl, a, _⟩ := lots_ok (by omega) (by omega) hl
  exact ⟨_, rfl, lotD_flat a⟩
theorem PreW.len {n : Nat} {ps ts : List PyData} {cs : List Int} {wr : Int} {m : Nat} (h : PreW n ps ts cs wr m) : (lotsN n m).length < 1000 := by
  have := h.g.n10
  have := h.m3
  exact lots_len n (by omega) m (by omega)
theorem ans_int {p l : PyData} (hp : ∃ xs, p = .tuple xs ∧ FlatT xs) (hl : ∃ xs, l = .tuple xs ∧ FlatT xs) : IntD (ansD p l) := by
  obtain ⟨a, rfl, _⟩ := hp
  obtain ⟨b, rfl, _⟩ := hl
  exact ⟨_, rfl⟩
theorem log2_le {i : Int} {k : Nat} (h0 : 0 ≤ i) (h : i ≤ 100 ^ k) : i.natAbs.log2 ≤ 7 * k := by
  have e : i.natAbs ≤ 100 ^ k := by
    have z : (i.natAbs : Int) ≤ ((100 ^ k : Nat) : Int) := by
      rw [Int.natAbs_of_nonneg h0]
      simpa using h
    exact Int.ofNat_le.mp z
  have e2 : (100 : Nat) ^ k ≤ 2 ^ (7 * k) := by
    rw [Nat.pow_mul]
    exact Nat.pow_le_pow_left (by decide) k
  by_cases hz : i.natAbs = 0
  · rw [hz]
    exact Nat.zero_le _
  · have z : i.natAbs.log2 ≤ (2 ^ (7 * k)).log2 := by
      refine (Nat.le_log2 (by exact Nat.ne_of_gt (Nat.pow_pos (by decide)))).mpr ?_
      exact Nat.le_trans (Nat.log2_self_le hz) (Nat.le_trans e e2)
    rwa [Nat.log2_two_pow] at z
theorem p100 {k j : Nat} (h : k ≤ j) : (100 : Int) ^ k ≤ 100 ^ j := by
  have z := Int.ofNat_le.mpr (Nat.pow_le_pow_right (n := 100) (by decide) h)
  simpa using z
theorem PreW.mul {n : Nat} {ps ts : List PyData} {cs : List Int} {wr : Int} {m : Nat} (h : PreW n ps ts cs wr m) (l rs : List PyData) : CMulW (lotW l 0 1 cs) (toldW wr 1 ts rs) ∧ 0 ≤ lotW l 0 1 cs ∧ 0 ≤ toldW wr 1 ts rs ∧ lotW l 0 1 cs ≤ 100 ^ 10 ∧ toldW wr 1 ts rs ≤ 100 ^ 16 := by
  obtain ⟨a, b⟩ := lotW_le (l := l) (i := 0) (w := 1) (B := 1) (by decide) (Int.le_refl _) h.ca
  obtain ⟨c, d⟩ := toldW_le h.w0 (ts := ts) (rs := rs) (w := 1) (B := 1) (by decide) (Int.le_refl _)
  rw [Int.one_mul] at b d
  have h1 := h.g.n10
  have h2 := h.g.len
  have b' : lotW l 0 1 cs ≤ 100 ^ 10 := Int.le_trans b (p100 (by rw [h.cl]; exact h1))
  have d' : toldW wr 1 ts rs ≤ 100 ^ 16 := Int.le_trans d (p100 (by rw [h.tl]; exact h2))
  refine ⟨?_, a, c, b', d'⟩
  have x := log2_le a b'
  have y := log2_le c d'
  show _ + _ < 1000000
  omega
theorem sc_weights : FnScope ["plan", "told", "chances", "wrong", "most", "things", "probes", "rows", "lot", "weight"] ["plan", "told", "chances", "wrong", "most"] (defScope s_weights) := ⟨rfl, rfl, rfl, by decide +kernel, rfl, by decide +kernel, by decide +kernel⟩
abbrev argW (n : Nat) (ps ts : List PyData) (cs : List Int) (wr : Int) (m : Nat) : List Ob := dats [.tuple [.int n, .tuple ps], .tuple ts, .tuple (cs.map .int), .int wr, .int m]
theorem argW_inj {n n' : Nat} {ps ps' ts ts' : List PyData} {cs cs' : List Int} {wr wr' : Int} {m m' : Nat} (h : argW n ps ts cs wr m = argW n' ps' ts' cs' wr' m') : n = n' ∧ ps = ps' ∧ ts = ts' ∧ cs = cs' ∧ wr = wr' ∧ m = m' := by
  have z := dats_inj h
  have a := PyData.tuple.inj (List.cons.inj z).1
  have a1 := PyData.int.inj (List.cons.inj a).1
  have a2 := PyData.tuple.inj (List.cons.inj (List.cons.inj a).2).1
  have z2 := (List.cons.inj z).2
  have z3 := (List.cons.inj z2).2
  have z4 := (List.cons.inj z3).2
  have z5 := (List.cons.inj z4).2
  exact ⟨by omega, a2, PyData.tuple.inj (List.cons.inj z2).1, ints_inj (PyData.tuple.inj (List.cons.inj z3).1), PyData.int.inj (List.cons.inj z4).1, by have := PyData.int.inj (List.cons.inj z5).1; omega⟩
abbrev sx_weights (K : PySem.W.Frag) (T : List (Addr × Str)) (CN : Addr) : Sp := spX K T (fun os => ∃ (n : Nat) (ps ts : List PyData) (cs : List Int) (wr : Int) (m : Nat), os = argW n ps ts cs wr m ∧ PreW n ps ts cs wr m)
  (fun os r => ∀ (n : Nat) (ps ts : List PyData) (cs : List Int) (wr : Int) (m : Nat), os = argW n ps ts cs wr m → rowsW n ps ts cs wr m ≠ [] ∧ r = .list ((rowsW n ps ts cs wr m).map rowD))
  (fun os x => x = ⟨CN, none⟩ ∧ ∀ (n : Nat) (ps ts : List PyData) (cs : List Int) (wr : Int) (m : Nat), os = argW n ps ts cs wr m → rowsW n ps ts cs wr m = [])
def accW (n : Nat) (ps ts : List PyData) (cs : List Int) (wr : Int) (m i : Nat) : List PyData := ((((lotsN n m).take i).map fun l => (l, wtW ps ts cs wr l)).filter fun p => decide (0 < p.2)).map rowD
theorem accW_step {n : Nat} {ps ts : List PyData} {cs : List Int} {wr : Int} {m i : Nat} {l : PyData} (h : (lotsN n m)[i]? = some l) : accW n ps ts cs wr m (i + 1) = accW n ps ts cs wr m i ++ (if decide (0 < wtW ps ts cs wr l) = true then [rowD (l, wtW ps ts cs wr l)] else []) := by
  unfold accW
  rw [List.take_add_one, h, List.map_append, List.filter_append, List.map_append]
  congr 1
  show (([(l, wtW ps ts cs wr l)]).filter fun p => decide (0 < p.2)).map rowD = _
  rw [List.filter_cons]
  cases decide (0 < wtW ps ts cs wr l) <;> rfl
theorem rows_len {n : Nat} {ps ts : List PyData} {cs : List Int} {wr : Int} {m : Nat} : (rowsW n ps ts cs wr m).length ≤ (lotsN n m).length := by
  unfold rowsW
  exact Nat.le_trans (List.length_filter_le ..) (by rw [List.length_map]; exact Nat.le_refl _)
theorem ok_weights {f f1 f2 f3 f4 CN : Addr} {fd fd1 fd2 fd3 fd4 : FuncData} (Fn : Fun K "weights" "weights" s_weights f fd)
    (F1 : FnOk P w K mg base CX0 2 f1 fd1 ["things", "most"] (sp_lots_up_to K T)) (k1 : PySem.W.keepIn K (.ref f1) = true) (b1 : Binds K fd1 ["things", "most"] []) (m1 : mg "lots_up_to" = some (.ref f1))
    (F2 : FnOk P w K mg base CX0 1 f2 fd2 ["lot", "chances"] (sp_lot_weight K T)) (k2 : PySem.W.keepIn K (.ref f2) = true) (b2 : Binds K fd2 ["lot", "chances"] []) (m2 : mg "lot_weight" = some (.ref f2))
    (F3 : FnOk P w K mg base CX0 1 f3 fd3 ["told", "right", "wrong"] (sp_told_weight K T)) (k3 : PySem.W.keepIn K (.ref f3) = true) (b3 : Binds K fd3 ["told", "right", "wrong"] []) (m3 : mg "told_weight" = some (.ref f3))
    (F4 : FnOk P w K mg base CX0 3 f4 fd4 ["probes", "lot"] (sp_answers_of K T)) (k4 : PySem.W.keepIn K (.ref f4) = true) (b4 : Binds K fd4 ["probes", "lot"] []) (m4 : mg "answers_of" = some (.ref f4)) (L : ClsN K mg "NoLot" CN) :
    FnOk P w K mg base (L2.CX P w) 4 f fd ["plan", "told", "chances", "wrong", "most"] (sx_weights K T CN) := by
  refine ok_defX Fn sc_weights (fun os ⟨_, _, _, _, _, _, e, _⟩ => by rw [e]; rfl) fun cdv A outer s H E' hr => ?_
  have hr1 : Room 1 (A.deeper (envOfC "weights" (defScope s_weights) s.heap.objs.size f cdv)) := hr.mono (by decide)
  have hr2 : Room 2 (A.deeper (envOfC "weights" (defScope s_weights) s.heap.objs.size f cdv)) := hr.mono (by decide)
  refine ⟨_, (pss_cons (ps_asg (pv 0) (pg_tup rfl (pgs_cons (pg_name (i := 5) sc_weights.nd rfl (by first | exact Or.inl rfl | exact Or.inr rfl)) (pgs_cons (pg_name (i := 6) sc_weights.nd rfl (by first | exact Or.inl rfl | exact Or.inr rfl)) pgs_nil))))
  (pss_cons (ps_set (i := 7) sc_weights.nd rfl (by first | exact Or.inl rfl | exact Or.inr rfl) (pe_lst pa_nil))
  (pss_cons (ps_for (PassesOwn.leaving) rfl (pi_list (pe_call F1 hr2 (by rfl) m1 k1 b1 .nil pass0 (pa_cons (pv 5) (pa_cons (pv 4) pa_nil)))) (pg_name (i := 8) sc_weights.nd rfl (by first | exact Or.inl rfl | exact Or.inr rfl)) (pss_cons (ps_set (i := 9) sc_weights.nd rfl (by first | exact Or.inl rfl | exact Or.inr rfl) (pe_op (r := rI CMulW fun i j => .int (i * j)) op_mulW (pe_call F2 hr1 (by rfl) m2 k2 b2 .nil pass0 (pa_cons (pv 8) (pa_cons (pv 2) pa_nil))) (pe_call F3 hr1 (by rfl) m3 k3 b3 .nil pass0 (pa_cons (pv 1) (pa_cons (pe_call F4 hr (by rfl) m4 k4 b4 .nil pass0 (pa_cons (pv 6) (pa_cons (pv 8) pa_nil))) (pa_cons (pv 3) pa_nil))))))
  (pss_one (ps_if (pt_cmpR op_gt (pv 9) pe_int (nomark _)) (pss_one (ps_expr (pe_bm PySem.F.plainAttrs_list PySem.F.slot_list_append PySem.F.type_list_append mt_append (pv 7) (pa_cons (pe_tup (pa_cons (pv 8) (pa_cons (pv 9) pa_nil))) pa_nil)))) pss_nil))))
  (pss_cons (ps_if (pt_not (pt_truth (pv 7) (by intro _; rfl))) (pss_one (ps_raise rfl (takes_of (E := E') rfl rfl rfl rfl) (pmk_own PySem.F.excBase_ValueError L.q L.m L.k (raises_own L.s L.t) (by rfl)))) pss_nil)
  (pss_one (ps_ret (pv 7))))))), ?_⟩
  rintro os ⟨n, ps, ts, cs, wr, m, rfl, h⟩
  have hn10 := h.g.n10
  have hm3 := h.m3
  have hlen := h.len
  have hps := h.g.len
  refine sx_seq (sx_of (s_asgTg e_var (tg_pair (vs := [5, 6]) (by decide) (by decide)) ?_))
  refine s_accM (k := 7) (n := (lotsN n m).length) (yd := fun i d => (lotsN n m)[i]? = some d) (vs := [8]) (fun i acc p G' => ∃ x y, G' = [some (.dat (.tuple [.int n, .tuple ps])), some (.dat (.tuple ts)), some (.dat (.tuple (cs.map .int))), some (.dat (.int wr)), some (.dat (.int m)), some (.dat (.int n)), some (.dat (.tuple ps)), some (.fn p), x, y] ∧ acc = accW n ps ts cs wr m i) (by show 7 < 10; decide)
    (fun p => i_list (EL.is (el_callD (F := F_lots_up_to) (ds := [.int n, .int m]) (a_cons e_var (a_cons e_var a_nil)) ⟨n, m, rfl, by omega, by omega⟩))) (fun p => ⟨none, none, rfl, rfl⟩) ?_ (by omega) ?_
  · rintro p i l acc G' hi hl ⟨x, y, rfl, hacc⟩
    refine ⟨_, tg_name (by decide), ?_⟩
    obtain ⟨xs, rfl, hx⟩ := h.lot (List.mem_of_getElem? hl)
    obtain ⟨hmul, a0, b0, _, _⟩ := h.mul xs (ps.map fun p => ansD p (.tuple xs))
    have ew : wtW ps ts cs wr (.tuple xs) = lotW xs 0 1 cs * toldW wr 1 ts (ps.map fun p => ansD p (.tuple xs)) := rfl
    rw [hacc]
    refine sm_seq (s_asg (d := .int (wtW ps ts cs wr (.tuple xs))) (e_op (r := rI CMulW fun i j => .int (i * j)) (P := (· = .int (lotW xs 0 1 cs))) (Q := (· = .int (toldW wr 1 ts (ps.map fun p => ansD p (.tuple xs))))) (e_call (os := dats [.tuple xs, .tuple (cs.map .int)]) (a_cons e_var (a_cons e_var a_nil)) ⟨xs, cs, rfl, hx.1, h.ca, by rw [h.cl]; omega⟩ fun d p => p xs cs rfl)
      (e_call (os := dats [.tuple ts, .tuple (ps.map fun p => ansD p (.tuple xs)), .int wr]) (a_cons e_var (a_cons (e_callD (F := F_answers_of) (ds := [.tuple ps, .tuple xs]) (a_cons e_var (a_cons e_var a_nil)) ⟨ps, xs, rfl, by omega, good_flat h.g, hx⟩) (a_cons e_var a_nil))) ⟨ts, _, wr, rfl, by rw [List.length_map]; exact h.tl, h.ta, fun r hr' => ?_, h.w0, by rw [h.tl]; omega⟩ fun d p => p ts _ wr rfl) (rd_I hmul fun _ _ => .int _)) ?_)
    · obtain ⟨p', hp', rfl⟩ := List.mem_map.mp hr'
      exact ans_int (good_flat h.g p' hp') ⟨xs, rfl, hx⟩
    refine sm_if (t_B (E.is (e_cmp (f := fun i j => decide (i > j)) (i := wtW ps ts cs wr (.tuple xs)) e_var e_int) rfl)) (fun hb => ?_) fun hb => ?_
    · have hb : decide (0 < wtW ps ts cs wr (.tuple xs)) = true := hb
      refine sm_app rfl (e_tup (ds := [.tuple xs, .int (wtW ps ts cs wr (.tuple xs))]) (a_cons e_var (a_cons e_var a_nil)) (by show 2 ≤ 100000; decide)) fun d hd => ⟨_, _, rfl, ?_⟩
      rw [accW_step hl, if_pos hb, hd]
      rfl
    · have hb : decide (0 < wtW ps ts cs wr (.tuple xs)) = false := hb
      refine sm_next ⟨_, _, rfl, ?_⟩
      rw [accW_step hl, hb, if_neg Bool.false_ne_true]
  rintro p acc G' ⟨x, y, rfl, hacc⟩
  have ea : acc = (rowsW n ps ts cs wr m).map rowD := by
    rw [hacc]
    unfold accW rowsW
    rw [List.take_length]
  subst ea
  refine ⟨rfl, ?_⟩
  refine sx_seq (sx_if (t_not (t_testL e_var)) ?_ ?_)
  · intro hb
    refine sx_raise (mx_own ⟨rfl, ?_⟩)
    intro n' ps' ts' cs' wr' m' e
    obtain ⟨rfl, rfl, rfl, rfl, rfl, rfl⟩ := argW_inj e
    have z : ((rowsW n ps ts cs wr m).map rowD).isEmpty = true := by simpa using hb
    rw [List.isEmpty_iff, List.map_eq_nil_iff] at z
    exact z
  · intro hb
    refine sx_of (s_next ?_)
    refine sx_of (s_ret e_var fun n' ps' ts' cs' wr' m' e => ?_)
    obtain ⟨rfl, rfl, rfl, rfl, rfl, rfl⟩ := argW_inj e
    refine ⟨fun z => ?_, rfl⟩
    rw [z] at hb
    cases hb
end
end K17

namespace K17
open PySem PySem.Spec L2 Dv DvC DvT
open PyProof.Rows hiding St
section
variable {P : Program} {w : World} {K : PySem.W.Frag} {mg : Str → Option Value} {base : Heap} {T : List (Addr × Str)}
/-! checked_weights, whatever is handed in -/
theorem firstGo_none {p : PyData → Bool} {many all : Nat} : ∀ {ts : List PyData} {i : Nat}, i ≤ many → i + ts.length = all → firstGo p many all i ts = .none → all = many ∧ ∀ t ∈ ts, p t = true
  | [], i, hi, he, h => by
    have he : i = all := he
    have h : (if (all : Int) < (many : Int) then PyData.int all else .none) = .none := h
    by_cases z : (all : Int) < (many : Int)
    · rw [if_pos z] at h
      cases h
    · exact ⟨by omega, fun t ht => by cases ht⟩
  | v :: r, i, hi, he, h => by
    have he : i + (r.length + 1) = all := he
    have h : (if (i : Int) = (many : Int) ∨ p v = false then PyData.int (i : Nat) else firstGo p many all (i + 1) r) = .none := h
    by_cases z : (i : Int) = (many : Int) ∨ p v = false
    · rw [if_pos z] at h
      cases h
    · rw [if_neg z] at h
      have n : ¬ i = many := fun e => z (.inl (by rw [e]))
      obtain ⟨a, b⟩ := firstGo_none (by omega) (by omega) h
      refine ⟨a, fun t ht => ?_⟩
      rcases List.mem_cons.mp ht with rfl | ht
      · cases e : p t with
        | true => rfl
        | false => exact absurd (.inr e) z
      · exact b t ht
theorem firstX_good {p : PyData → Bool} {many : Nat} {d : PyData} (h : firstX p many d = .none) : ∃ ts, d = .tuple ts ∧ ts.length = many ∧ ∀ t ∈ ts, p t = true := by
  cases d with
  | tuple ts =>
    obtain ⟨a, b⟩ := firstGo_none (Nat.zero_le _) (Nat.zero_add _) (show firstGo p many ts.length 0 ts = .none from h)
    exact ⟨ts, rfl, a, b⟩
  | _ => cases h
theorem cha_ints : ∀ {ts : List PyData}, (∀ t ∈ ts, isChaD t = true) → ∃ cs : List Int, ts = cs.map .int ∧ ∀ c ∈ cs, 0 ≤ c ∧ c ≤ 100
  | [], _ => ⟨[], rfl, fun c hc => by cases hc⟩
  | t :: r, h => by
    obtain ⟨cs, e, h'⟩ := cha_ints (ts := r) fun x hx => h x (List.mem_cons_of_mem _ hx)
    obtain ⟨i, rfl, h0, h1⟩ := within_int (show withinD t 0 100 = true from h t (List.mem_cons_self ..))
    refine ⟨i :: cs, by rw [e]; rfl, fun c hc => ?_⟩
    rcases List.mem_cons.mp hc with rfl | hc
    · exact ⟨h0, h1⟩
    · exact h' c hc
structure ClsW where
  (P A H C N : Addr)
def thD : PyData → Nat
  | .tuple (.int n :: _) => n.toNat
  | _ => 0
def prD : PyData → List PyData
  | .tuple [_, .tuple ps] => ps
  | _ => []
/-- what is refused ahead of the weights -/
inductive CwX (c : ClsW) (p t h w m : PyData) : Xd → Prop
  | p {k : Int} : planX p = some k → CwX c p t h w m (numX c.P k)
  | a {j : Nat} : planX p = none → firstX isAnsD (prD p).length t = .int j → CwX c p t h w m (numX c.A j)
  | h {j : Nat} : planX p = none → firstX isAnsD (prD p).length t = .none → firstX isChaD (thD p) h = .int j → CwX c p t h w m (numX c.H j)
  | w : planX p = none → firstX isAnsD (prD p).length t = .none → firstX isChaD (thD p) h = .none → withinD w 0 100 = false → CwX c p t h w m ⟨c.C, none⟩
  | m : planX p = none → firstX isAnsD (prD p).length t = .none → firstX isChaD (thD p) h = .none → withinD w 0 100 = true → withinD m 0 3 = false → CwX c p t h w m ⟨c.C, none⟩
abbrev dats5 (p t h w m : PyData) : List Ob := dats [p, t, h, w, m]
def NoRows (os : List Ob) : Prop := ∃ (n : Nat) (ps ts : List PyData) (cs : List Int) (wr : Int) (m : Nat), os = argW n ps ts cs wr m ∧ PreW n ps ts cs wr m ∧ rowsW n ps ts cs wr m = []
def exCw (c : ClsW) (os : List Ob) (x : Xd) : Prop := (∃ p t h w m, os = dats5 p t h w m ∧ CwX c p t h w m x) ∨ (x = ⟨c.N, none⟩ ∧ NoRows os)
def okCw (os : List Ob) (f : List (PyData × Int) → PyData) (r : PyData) : Prop := ∃ (n : Nat) (ps ts : List PyData) (cs : List Int) (wr : Int) (m : Nat), os = argW n ps ts cs wr m ∧ PreW n ps ts cs wr m ∧ rowsW n ps ts cs wr m ≠ [] ∧ r = f (rowsW n ps ts cs wr m)
def rowsD (rs : List (PyData × Int)) : PyData := .list (rs.map rowD)
abbrev sx_cw (K : PySem.W.Frag) (T : List (Addr × Str)) (c : ClsW) : Sp := spX K T (fun os => ∃ p t h w m, os = dats5 p t h w m) (fun os r => okCw os rowsD r) (exCw c)
theorem sc_checked_weights : FnScope ["plan", "told", "chances", "wrong", "most", "things", "probes"] ["plan", "told", "chances", "wrong", "most"] (defScope s_checked_weights) := ⟨rfl, rfl, rfl, by decide +kernel, rfl, by decide +kernel, by decide +kernel⟩
theorem hund_txt : Txt2 "no number from " " to " 0 100 := ⟨by decide +kernel, by decide +kernel, by decide +kernel, by decide +kernel, by decide +kernel, by decide +kernel⟩
theorem ok_checked_weights {f f1 f2 f3 f4 f5 f6 : Addr} {fd fd1 fd2 fd3 fd4 fd5 fd6 : FuncData} {c : ClsW} (Fn : Fun K "checked_weights" "checked_weights" s_checked_weights f fd) (X : Txt mg)
    (F1 : FnOk P w K mg base (L2.CX P w) 4 f1 fd1 ["plan"] (sx_check_plan K T c.P)) (k1 : PySem.W.keepIn K (.ref f1) = true) (b1 : Binds K fd1 ["plan"] []) (m1 : mg "check_plan" = some (.ref f1))
    (F2 : FnOk P w K mg base (L2.CX P w) 4 f2 fd2 ["told", "many"] (sx_check_answers K T c.A)) (k2 : PySem.W.keepIn K (.ref f2) = true) (b2 : Binds K fd2 ["told", "many"] []) (m2 : mg "check_answers" = some (.ref f2))
    (F3 : FnOk P w K mg base (L2.CX P w) 4 f3 fd3 ["chances", "things"] (sx_check_chances K T c.H)) (k3 : PySem.W.keepIn K (.ref f3) = true) (b3 : Binds K fd3 ["chances", "things"] []) (m3 : mg "check_chances" = some (.ref f3))
    (F4 : FnOk P w K mg base (L2.CX P w) 2 f4 fd4 ["value", "low", "high"] (sx_check_count K T c.C)) (k4 : PySem.W.keepIn K (.ref f4) = true) (b4 : Binds K fd4 ["value", "low", "high"] []) (m4 : mg "check_count" = some (.ref f4))
    (F5 : FnOk P w K mg base (L2.CX P w) 3 f5 fd5 ["most"] (sx_check_most K T c.C)) (k5 : PySem.W.keepIn K (.ref f5) = true) (b5 : Binds K fd5 ["most"] []) (m5 : mg "check_most" = some (.ref f5))
    (F6 : FnOk P w K mg base (L2.CX P w) 4 f6 fd6 ["plan", "told", "chances", "wrong", "most"] (sx_weights K T c.N)) (k6 : PySem.W.keepIn K (.ref f6) = true) (b6 : Binds K fd6 ["plan", "told", "chances", "wrong", "most"] []) (m6 : mg "weights" = some (.ref f6)) :
    FnOk P w K mg base (L2.CX P w) 5 f fd ["plan", "told", "chances", "wrong", "most"] (sx_cw K T c) := by
  refine ok_defX Fn sc_checked_weights (fun os ⟨_, _, _, _, _, e⟩ => by rw [e]; rfl) fun cdv A outer s H E' hr => ?_
  obtain ⟨th, mh⟩ := X.HUNDRED
  have hr2 : Room 2 (A.deeper (envOfC "checked_weights" (defScope s_checked_weights) s.heap.objs.size f cdv)) := hr.mono (by decide)
  have hr3 : Room 3 (A.deeper (envOfC "checked_weights" (defScope s_checked_weights) s.heap.objs.size f cdv)) := hr.mono (by decide)
  refine ⟨_, (pss_cons (ps_expr (pe_call F1 hr (by rfl) m1 k1 b1 .nil (passes_call (takes_of (E := E') rfl rfl rfl rfl) fun _ _ _ _ h => h) (pa_cons (pv 0) pa_nil)))
  (pss_cons (ps_asg (pv 0) (pg_tup rfl (pgs_cons (pg_name (i := 5) sc_checked_weights.nd rfl (by first | exact Or.inl rfl | exact Or.inr rfl)) (pgs_cons (pg_name (i := 6) sc_checked_weights.nd rfl (by first | exact Or.inl rfl | exact Or.inr rfl)) pgs_nil))))
  (pss_cons (ps_expr (pe_call F2 hr (by rfl) m2 k2 b2 .nil (passes_call (takes_of (E := E') rfl rfl rfl rfl) fun _ _ _ _ h => h) (pa_cons (pv 1) (pa_cons (pe_callB (r := rLenQ K) call_len_seq (by rfl) X.len bt_len (pa_cons (pv 6) pa_nil)) pa_nil))))
  (pss_cons (ps_expr (pe_call F3 hr (by rfl) m3 k3 b3 .nil (passes_call (takes_of (E := E') rfl rfl rfl rfl) fun _ _ _ _ h => h) (pa_cons (pv 2) (pa_cons (pv 5) pa_nil))))
  (pss_cons (ps_expr (pe_call F4 hr2 (by rfl) m4 k4 b4 .nil (passes_call (takes_of (E := E') rfl rfl rfl rfl) fun _ _ _ _ h => h) (pa_cons (pv 3) (pa_cons pe_int (pa_cons (pe_glob (v := .int 100) (by rfl) mh ⟨_, rfl⟩) pa_nil)))))
  (pss_cons (ps_expr (pe_call F5 hr3 (by rfl) m5 k5 b5 .nil (passes_call (takes_of (E := E') rfl rfl rfl rfl) fun _ _ _ _ h => h) (pa_cons (pv 4) pa_nil)))
  (pss_one (ps_ret (pe_call F6 hr (by rfl) m6 k6 b6 .nil (passes_call (takes_of (E := E') rfl rfl rfl rfl) fun _ _ _ _ h => h) (pa_cons (pv 0) (pa_cons (pv 1) (pa_cons (pv 2) (pa_cons (pv 3) (pa_cons (pv 4) pa_nil)))))))))))))), ?_⟩
  rintro os ⟨p, t, h, wr, m, rfl⟩
  refine sx_seq (sx_drop (ex_call (P := fun _ => planX p = none) (os := dats [p]) (a_cons e_var a_nil) ⟨p, rfl⟩ (fun r ⟨d', z, hn, _⟩ => ?_) (fun x ⟨d', k, z, hk, ex⟩ => ?_)) fun _ hp => ?_)
  · have z := dats_inj z
    cases z
    exact hn
  · have z := dats_inj z
    cases z
    rw [ex]
    exact .inl ⟨p, t, h, wr, m, rfl, .p hk⟩
  obtain ⟨n, ps, rfl, hg⟩ := planX_good hp
  have h16 := hg.len
  have h10 := hg.n10
  refine sx_seq (sx_of (s_asgTg e_var (tg_pair (vs := [5, 6]) (by decide) (by decide)) ?_))
  refine sx_seq (sx_drop (ex_call (P := fun _ => firstX isAnsD ps.length t = .none) (os := dats [t, .int ps.length]) (a_cons e_var (a_cons (e_len (a_cons e_var a_nil) (.inr rfl)) a_nil)) ⟨t, ps.length, rfl, h16⟩ (fun r ⟨d', k, z, hn, _⟩ => ?_) (fun x ⟨d', k, j, z, hk, ex⟩ => ?_)) fun _ ha => ?_)
  · have z := dats_inj z
    have z1 := (List.cons.inj z).1
    have z2 := PyData.int.inj (List.cons.inj (List.cons.inj z).2).1
    obtain rfl : ps.length = k := by omega
    rw [z1]
    exact hn
  · have z := dats_inj z
    have z1 := (List.cons.inj z).1
    have z2 := PyData.int.inj (List.cons.inj (List.cons.inj z).2).1
    obtain rfl : ps.length = k := by omega
    rw [ex]
    exact .inl ⟨_, t, h, wr, m, rfl, .a hp (by rw [z1]; exact hk)⟩
  refine sx_seq (sx_drop (ex_call (P := fun _ => firstX isChaD n h = .none) (os := dats [h, .int n]) (a_cons e_var (a_cons e_var a_nil)) ⟨h, n, rfl, h10⟩ (fun r ⟨d', k, z, hn, _⟩ => ?_) (fun x ⟨d', k, j, z, hk, ex⟩ => ?_)) fun _ hc => ?_)
  · have z := dats_inj z
    have z1 := (List.cons.inj z).1
    have z2 := PyData.int.inj (List.cons.inj (List.cons.inj z).2).1
    obtain rfl : n = k := by omega
    rw [z1]
    exact hn
  · have z := dats_inj z
    have z1 := (List.cons.inj z).1
    have z2 := PyData.int.inj (List.cons.inj (List.cons.inj z).2).1
    obtain rfl : n = k := by omega
    rw [ex]
    exact .inl ⟨_, t, h, wr, m, rfl, .h hp ha (by rw [z1]; exact hk)⟩
  refine sx_seq (sx_drop (ex_call (P := fun _ => withinD wr 0 100 = true) (os := dats [wr, .int 0, .int 100]) (a_cons e_var (a_cons e_int (a_cons e_int a_nil))) ⟨wr, 0, 100, rfl, hund_txt⟩ (fun r ⟨d', lo, hi, z, hn, _⟩ => ?_) (fun x ⟨d', lo, hi, z, hk, ex⟩ => ?_)) fun _ hw => ?_)
  · have z := dats_inj z
    cases z
    exact hn
  · have z := dats_inj z
    cases z
    rw [ex]
    exact .inl ⟨_, t, h, wr, m, rfl, .w hp ha hc hk⟩
  refine sx_seq (sx_drop (ex_call (P := fun _ => withinD m 0 3 = true) (os := dats [m]) (a_cons e_var a_nil) ⟨m, rfl⟩ (fun r ⟨d', z, hn, _⟩ => ?_) (fun x ⟨d', z, hk, ex⟩ => ?_)) fun _ hm => ?_)
  · have z := dats_inj z
    cases z
    exact hn
  · have z := dats_inj z
    cases z
    rw [ex]
    exact .inl ⟨_, t, h, wr, m, rfl, .m hp ha hc hw hk⟩
  obtain ⟨ts, rfl, t1, t2⟩ := firstX_good ha
  obtain ⟨hs, rfl, c1, c2⟩ := firstX_good hc
  obtain ⟨cs, rfl, c3⟩ := cha_ints c2
  obtain ⟨w', rfl, w1, w2⟩ := within_int hw
  obtain ⟨m', rfl, q1, q2⟩ := within_int hm
  obtain ⟨k, rfl⟩ : ∃ k : Nat, m' = k := ⟨m'.toNat, by omega⟩
  have pre : PreW n ps ts cs w' k := ⟨hg, t1, t2, by rw [List.length_map] at c1; exact c1, c3, ⟨w1, w2⟩, by omega⟩
  refine sx_ret (ex_call (os := argW n ps ts cs w' k) (a_cons e_var (a_cons e_var (a_cons e_var (a_cons e_var (a_cons e_var a_nil))))) ⟨n, ps, ts, cs, w', k, rfl, pre⟩ (fun d hd => hd n ps ts cs w' k rfl) (fun x ⟨ex, hx⟩ => .inr ⟨ex, n, ps, ts, cs, w', k, rfl, pre, hx n ps ts cs w' k rfl⟩)) fun d ⟨hne, hd⟩ => ⟨n, ps, ts, cs, w', k, rfl, pre, hne, hd⟩
end
end K17

namespace K17
open PySem PySem.Spec L2 Dv DvC DvT
open PyProof.Rows hiding St
section
variable {P : Program} {w : World} {K : PySem.W.Frag} {mg : Str → Option Value} {base : Heap} {T : List (Addr × Str)}
/-! what isn't come to -/
theorem pss_no {X : Cx} {st : List Stmt} : PSs X st (fun _ _ _ => False) := ⟨fun _ _ _ _ _ _ h => h.elim⟩
theorem firstGo_ok {p : PyData → Bool} {many all : Nat} (he : all = many) : ∀ {ts : List PyData} {i : Nat}, i + ts.length = all → (∀ t ∈ ts, p t = true) → firstGo p many all i ts = .none
  | [], i, hi, _ => by
    show (if (all : Int) < (many : Int) then PyData.int all else .none) = .none
    rw [if_neg (by omega)]
  | v :: r, i, hi, h => by
    have hi : i + (r.length + 1) = all := hi
    show (if (i : Int) = (many : Int) ∨ p v = false then PyData.int (i : Nat) else firstGo p many all (i + 1) r) = .none
    rw [if_neg (by rintro (z | z); omega; rw [h v (List.mem_cons_self ..)] at z; cases z)]
    exact firstGo_ok he (by omega) fun t ht => h t (List.mem_cons_of_mem _ ht)
theorem firstX_ok {p : PyData → Bool} {ts : List PyData} {many : Nat} (he : ts.length = many) (h : ∀ t ∈ ts, p t = true) : firstX p many (.tuple ts) = .none := firstGo_ok he (Nat.zero_add _) h
theorem cha_ok {c : Int} (h : 0 ≤ c ∧ c ≤ 100) : isChaD (.int c) = true := by
  show (decide (0 ≤ c) && decide (c ≤ 100)) = true
  rw [decide_eq_true h.1, decide_eq_true h.2]
  rfl
theorem chas_ok {cs : List Int} (h : ∀ c ∈ cs, 0 ≤ c ∧ c ≤ 100) : ∀ t ∈ cs.map PyData.int, isChaD t = true := fun t ht => by
  obtain ⟨c, hc, rfl⟩ := List.mem_map.mp ht
  exact cha_ok (h c hc)
theorem PreW.no {n : Nat} {ps ts : List PyData} {cs : List Int} {wr : Int} {m : Nat} {c : ClsW} {x : Xd} (h : PreW n ps ts cs wr m) : ¬ CwX c (.tuple [.int n, .tuple ps]) (.tuple ts) (.tuple (cs.map .int)) (.int wr) (.int m) x := fun q => by
  have a := planX_of h.g
  have b : firstX isAnsD (prD (.tuple [.int n, .tuple ps])).length (.tuple ts) = .none := firstX_ok h.tl h.ta
  have d : firstX isChaD (thD (.tuple [.int n, .tuple ps])) (.tuple (cs.map .int)) = .none := firstX_ok (by rw [List.length_map]; exact h.cl) (chas_ok h.ca)
  cases q with
  | p e => rw [a] at e; cases e
  | a _ e => rw [b] at e; cases e
  | h _ _ e => rw [d] at e; cases e
  | w _ _ _ e =>
    have z : withinD (.int wr) 0 100 = true := cha_ok h.w0
    rw [z] at e; cases e
  | m _ _ _ _ e =>
    have h3 := h.m3
    have z : withinD (.int m) 0 3 = true := by
      show (decide ((0 : Int) ≤ m) && decide ((m : Int) ≤ 3)) = true
      rw [decide_eq_true (show (0 : Int) ≤ m by omega), decide_eq_true (show (m : Int) ≤ 3 by omega)]
      rfl
    rw [z] at e; cases e
theorem CwX.one {c : ClsW} {p t h w m : PyData} {x y : Xd} (a : CwX c p t h w m x) (b : CwX c p t h w m y) : x = y := by
  cases a <;> cases b <;> simp_all
theorem dats5_argW {p t h w m : PyData} {n : Nat} {ps ts : List PyData} {cs : List Int} {wr : Int} {k : Nat} (e : dats5 p t h w m = argW n ps ts cs wr k) : p = .tuple [.int n, .tuple ps] ∧ t = .tuple ts ∧ h = .tuple (cs.map .int) ∧ w = .int wr ∧ m = .int k := by
  have z := dats_inj e
  simp only [List.cons.injEq] at z
  obtain ⟨a, b, c, d, e, _⟩ := z
  exact ⟨a, b, c, d, e⟩
/-- what is refused is refused so -/
theorem exCw_is {c : ClsW} {p t h w m : PyData} {x y : Xd} (a : CwX c p t h w m x) (b : exCw c (dats5 p t h w m) y) : y = x := by
  rcases b with ⟨p', t', h', w', m', e, q⟩ | ⟨_, n, ps, ts, cs, wr, k, e, pre, _⟩
  · have z := dats_inj e
    cases z
    exact q.one a
  · obtain ⟨rfl, rfl, rfl, rfl, rfl⟩ := dats5_argW e
    exact absurd a pre.no
theorem okCw_no {c : ClsW} {p t h w m : PyData} {x : Xd} {f : List (PyData × Int) → PyData} {r : PyData} (a : CwX c p t h w m x) (b : okCw (dats5 p t h w m) f r) : False := by
  obtain ⟨n, ps, ts, cs, wr, k, e, pre, _⟩ := b
  obtain ⟨rfl, rfl, rfl, rfl, rfl⟩ := dats5_argW e
  exact pre.no a
/-! fractions -/
def gcdI (a b : Int) : Int := ((Nat.gcd a.natAbs b.natAbs : Nat) : Int)
def fracD (a b : Int) : PyData := .tuple [.int (a / gcdI a b), .int (b / gcdI a b)]
theorem sc_fraction : FnScope ["top", "under", "common"] ["top", "under"] (defScope s_fraction) := ⟨rfl, rfl, rfl, by decide +kernel, rfl, by decide +kernel, by decide +kernel⟩
abbrev sp_fraction (K : PySem.W.Frag) (T : List (Addr × Str)) : Sp := spA K T (fun os => ∃ a b : Int, os = dats [.int a, .int b] ∧ 0 < b ∧ b.natAbs.log2 < 9000) (fun os d => ∀ a b : Int, os = dats [.int a, .int b] → d = fracD a b)
theorem e_gcd {G : Dv.Ctx} {tr : TA} {a b : Int} (h : EA K T tr G (· = dats [.int a, .int b])) : E K T (tCB rGcd tr) G (· = .int (gcdI a b)) := e_cb h fun W H vs j dv Q q => by
  have al := all_of (ds := [.int a, .int b]) dv
  cases al with
  | cons x al =>
  cases al with
  | cons y al =>
  cases al
  cases x.int_inv
  cases y.int_inv
  exact ⟨a, b, rfl, q _ _ H (.refl H) j (.int _) rfl⟩
theorem gcd_ok {a b : Int} (h0 : 0 < b) (h : b.natAbs.log2 < 9000) : CDivW a (gcdI a b) := by
  have hb : 0 < b.natAbs := by omega
  have g0 : 0 < Nat.gcd a.natAbs b.natAbs := Nat.gcd_pos_of_pos_right _ hb
  refine ⟨by unfold gcdI; omega, ?_⟩
  have le := Nat.gcd_le_right a.natAbs hb
  have e : (gcdI a b).natAbs = Nat.gcd a.natAbs b.natAbs := by
    unfold gcdI
    exact Int.natAbs_natCast _
  rw [e]
  refine Nat.lt_of_le_of_lt ?_ h
  exact (Nat.le_log2 (by omega)).mpr (Nat.le_trans (Nat.log2_self_le (by omega)) le)
theorem ok_fraction {f : Addr} {fd : FuncData} (Fn : Fun K "fraction" "fraction" s_fraction f fd) (mG : mg "gcd" = some (.builtin "math.gcd")) : FnOk P w K mg base CX0 1 f fd ["top", "under"] (sp_fraction K T) := by
  refine ok_def Fn sc_fraction (fun os ⟨_, _, e, _⟩ => by rw [e]; rfl) fun cdv A outer s H E' hr => ?_
  refine ⟨_, (pss_cons (ps_set (i := 2) sc_fraction.nd rfl (by first | exact Or.inl rfl | exact Or.inr rfl) (pe_callBfun cr_gcd (by rfl) mG (pa_cons (pv 0) (pa_cons (pv 1) pa_nil))))
  (pss_one (ps_ret (pe_tup (pa_cons (pe_op (r := rI CDivW fun i j => .int (i / j)) op_fdivW (pv 0) (pv 2)) (pa_cons (pe_op (r := rI CDivW fun i j => .int (i / j)) op_fdivW (pv 1) (pv 2)) pa_nil)))))), ?_⟩
  rintro os ⟨a, b, rfl, h0, hb⟩
  refine s_seq (s_asg (e_gcd (a := a) (b := b) (a_cons e_var (a_cons e_var a_nil))) ?_)
  have c1 : CDivW a (gcdI a b) := gcd_ok h0 hb
  have c2 : CDivW b (gcdI a b) := c1
  refine s_ret (e_tup (ds := [.int (a / gcdI a b), .int (b / gcdI a b)]) (a_cons (e_op e_var e_var (rd_I c1 fun _ _ => .int _)) (a_cons (e_op e_var e_var (rd_I c2 fun _ _ => .int _)) a_nil)) (by show 2 ≤ 100000; decide)) fun a' b' e => ?_
  have z := dats_inj e
  have e1 := PyData.int.inj (List.cons.inj z).1
  have e2 := PyData.int.inj (List.cons.inj (List.cons.inj z).2).1
  subst e1 e2
  rfl
/-! how much weights come to -/
theorem rows_pos {n : Nat} {ps ts : List PyData} {cs : List Int} {wr : Int} {m : Nat} (h : PreW n ps ts cs wr m) : ∀ p ∈ rowsW n ps ts cs wr m, 0 < p.2 ∧ p.2 ≤ 100 ^ 26 := fun p hp => by
  obtain ⟨h1, h2⟩ := List.mem_filter.mp hp
  obtain ⟨l, hl, rfl⟩ := List.mem_map.mp h1
  obtain ⟨_, a0, b0, a1, b1⟩ := h.mul (lotL l) (ps.map fun p => ansD p l)
  refine ⟨of_decide_eq_true h2, ?_⟩
  have z : lotW (lotL l) 0 1 cs * toldW wr 1 ts (ps.map fun p => ansD p l) ≤ 100 ^ 10 * 100 ^ 16 := Int.mul_le_mul a1 b1 b0 (by decide)
  exact z
theorem sum_le {B : Int} : ∀ {rs : List (PyData × Int)}, (∀ p ∈ rs, 0 < p.2 ∧ p.2 ≤ B) → 0 ≤ sumW rs ∧ sumW rs ≤ rs.length * B ∧ (rs ≠ [] → 0 < sumW rs)
  | [], _ => ⟨Int.le_refl _, by show (0 : Int) ≤ ((0 : Nat) : Int) * B; simp, fun z => absurd rfl z⟩
  | p :: r, h => by
    obtain ⟨a, b, _⟩ := sum_le (rs := r) fun q hq => h q (List.mem_cons_of_mem _ hq)
    obtain ⟨c, d⟩ := h p (List.mem_cons_self ..)
    have e : sumW (p :: r) = p.2 + sumW r := by
      unfold sumW
      rw [List.map_cons, List.sum_cons]
    rw [e]
    refine ⟨by omega, ?_, fun _ => by omega⟩
    rw [List.length_cons, Int.natCast_add, Int.add_mul]
    show p.2 + sumW r ≤ (r.length : Int) * B + 1 * B
    omega
theorem PreW.tot {n : Nat} {ps ts : List PyData} {cs : List Int} {wr : Int} {m : Nat} (h : PreW n ps ts cs wr m) (hne : rowsW n ps ts cs wr m ≠ []) : 0 < sumW (rowsW n ps ts cs wr m) ∧ (sumW (rowsW n ps ts cs wr m)).natAbs.log2 < 9000 := by
  obtain ⟨a, b, c⟩ := sum_le (rows_pos h)
  have hl : (rowsW n ps ts cs wr m).length < 1000 := Nat.lt_of_le_of_lt rows_len h.len
  have p0 : (0 : Int) < 100 ^ 26 := by decide
  have z : ((rowsW n ps ts cs wr m).length : Int) * 100 ^ 26 ≤ 100 ^ 2 * 100 ^ 26 := Int.mul_le_mul_of_nonneg_right (by show ((rowsW n ps ts cs wr m).length : Int) ≤ 10000; omega) (Int.le_of_lt p0)
  have y := log2_le (k := 28) a (Int.le_trans b z)
  exact ⟨c hne, by omega⟩
/-! shares -/
theorem okX_FunC {x qual : Str} {st : Stmt} {f c : Addr} {fd : FuncData} {N ps : List Str} {k : Nat} {pre : List Ob → Prop} {post : List Ob → PyData → Prop} {exc : List Ob → Xd → Prop} (F : FunC K x qual st f fd c) (Sc : FnScope N ps (defScope st)) (hl : ∀ os, pre os → os.length = ps.length)
    (hbody : ∀ (A : Around) (outer : List Env) (s : Shared) (H : Hp) (E' : XK), Room k (A.deeper (envOfC qual (defScope st) s.heap.objs.size f (.ref c))) →
      ∃ t, PSs (cxOf (L2.CX P w) P w K mg base N qual (defScope st) f (.ref c) A outer s H E') (defBody st) t ∧ ∀ os, pre os → SX K T E' t (startG N os) { nx := fun _ => post os .none, rt := post os } (exc os)) : FnOk P w K mg base (L2.CX P w) (k + 1) f fd ps (spX K T pre post exc) := by
  obtain ⟨oc, od, kV, doc, pm, an, ct, osl, rfl, lk, hcd⟩ := F.ex
  refine fn_of lk hcd Sc (fun vs H Q E' ⟨W, os, j, dv, hp, _⟩ => (Paired.length dv).trans (hl os hp)) fun A outer s H vs Q E' hr ⟨W, os, j, dv, hp, q, xo⟩ => ?_
  obtain ⟨t, ht, hs⟩ := hbody A outer s H E' hr
  exact ⟨t, ht, hs os hp W _ _ H (start_sl dv) j ⟨fun σ' H' G' e j' _ f => q .non .none H' e j' .non f, fun v d H' e j' dv' f => q v d H' e j' dv' f, fun _ _ _ _ _ _ _ _ _ f => f.elim, fun _ _ _ _ _ _ f => f.elim, fun _ _ _ _ _ _ f => f.elim⟩ xo⟩
def shareD (tot : Int) : PyData → PyData
  | .tuple [l, .int k] => .tuple [l, fracD k tot]
  | _ => .none
def sharesD (rs : List (PyData × Int)) : PyData := .list ((fallL rs).map fun p => .tuple [p.1, fracD p.2 (sumW rs)])
theorem sc_shares : FnScope ["plan", "told", "chances", "wrong", "most", "rows", "total", "falling", "lot", "weight"] ["plan", "told", "chances", "wrong", "most"] (defScope s_shares) := ⟨rfl, rfl, rfl, by decide +kernel, rfl, by decide +kernel, by decide +kernel⟩
abbrev lamS : Str := (Str.ofString "shares" ++ Str.ofString ".<locals>.") ++ Str.ofString "<lambda>"
/-- what is asked of a plan and all that belongs to it -/
def goodW (os : List Ob) : Prop := ∃ (n : Nat) (ps ts : List PyData) (cs : List Int) (wr : Int) (m : Nat), os = argW n ps ts cs wr m ∧ PreW n ps ts cs wr m
def okL (os : List Ob) (f : Nat → List (PyData × Int) → List PyData) (r : List PyData) : Prop := ∃ (n : Nat) (ps ts : List PyData) (cs : List Int) (wr : Int) (m : Nat), os = argW n ps ts cs wr m ∧ PreW n ps ts cs wr m ∧ rowsW n ps ts cs wr m ≠ [] ∧ r = f n (rowsW n ps ts cs wr m)
def noL (CN : Addr) (os : List Ob) (x : Xd) : Prop := x = ⟨CN, none⟩ ∧ NoRows os
theorem ex_cw {G : Dv.Ctx} {Ech : XK} {c : ClsW} {n : Nat} {ps ts : List PyData} {cs : List Int} {wr : Int} {m : Nat} (pre : PreW n ps ts cs wr m) (h0 : G[0]? = some (some (.dat (.tuple [.int n, .tuple ps])))) (h1 : G[1]? = some (some (.dat (.tuple ts)))) (h2 : G[2]? = some (some (.dat (.tuple (cs.map .int))))) (h3 : G[3]? = some (some (.dat (.int wr)))) (h4 : G[4]? = some (some (.dat (.int m)))) :
    EX K T Ech (tCall (sx_cw K T c) [] Ech (tCons (tVar 0) (tCons (tVar 1) (tCons (tVar 2) (tCons (tVar 3) (tCons (tVar 4) tNil)))))) G (fun r => rowsW n ps ts cs wr m ≠ [] ∧ r = rowsD (rowsW n ps ts cs wr m)) (fun x => noL c.N (argW n ps ts cs wr m) x) :=
  ex_call (os := argW n ps ts cs wr m) (a_cons (e_var h0) (a_cons (e_var h1) (a_cons (e_var h2) (a_cons (e_var h3) (a_cons (e_var h4) a_nil))))) ⟨_, _, _, _, _, rfl⟩ (fun r ⟨n', ps', ts', cs', wr', m', e, _, hne, er⟩ => by
    obtain ⟨rfl, rfl, rfl, rfl, rfl, rfl⟩ := argW_inj e
    exact ⟨hne, er⟩) fun x hx => by
    rcases hx with ⟨p', t', h', w', k', e, q⟩ | hx
    · have z := dats_inj e
      cases z
      exact absurd q pre.no
    · exact hx
def sharesL (rs : List (PyData × Int)) : List PyData := (fallL rs).map fun p => .tuple [p.1, fracD p.2 (sumW rs)]
abbrev sx_sharesL (K : PySem.W.Frag) (T : List (Addr × Str)) (CN : Addr) : Sp := spXL K T goodW (fun os ds => okL os (fun _ rs => sharesL rs) ds) (noL CN)
theorem okXL_FunC {x qual : Str} {st : Stmt} {f c : Addr} {fd : FuncData} {N ps : List Str} {k : Nat} {pre : List Ob → Prop} {post : List Ob → List PyData → Prop} {exc : List Ob → Xd → Prop} (F : FunC K x qual st f fd c) (Sc : FnScope N ps (defScope st)) (hl : ∀ os, pre os → os.length = ps.length)
    (hbody : ∀ (A : Around) (outer : List Env) (s : Shared) (H : Hp) (E' : XK), Room k (A.deeper (envOfC qual (defScope st) s.heap.objs.size f (.ref c))) →
      ∃ t, PSs (cxOf (L2.CX P w) P w K mg base N qual (defScope st) f (.ref c) A outer s H E') (defBody st) t ∧ ∀ os, pre os → SX K T E' t (startG N os) { rl := post os } (exc os)) : FnOk P w K mg base (L2.CX P w) (k + 1) f fd ps (spXL K T pre post exc) := by
  obtain ⟨oc, od, kV, doc, pm, an, ct, osl, rfl, lk, hcd⟩ := F.ex
  refine fn_of lk hcd Sc (fun vs H Q E' ⟨W, os, j, dv, hp, _⟩ => (Paired.length dv).trans (hl os hp)) fun A outer s H vs Q E' hr ⟨W, os, j, dv, hp, q, xo⟩ => ?_
  obtain ⟨t, ht, hs⟩ := hbody A outer s H E' hr
  exact ⟨t, ht, hs os hp W _ _ H (start_sl dv) j ⟨fun _ _ _ _ _ _ f => f.elim, fun _ _ _ _ _ _ f => f.elim, fun p xs ds H' f j' n h al z => q p xs ds H' f j' n h al z, fun _ _ _ _ _ _ f => f.elim, fun _ _ _ _ _ _ f => f.elim⟩ xo⟩
theorem ok_shares {f cs Pt f1 f2 f3 : Addr} {fd fd1 fd2 fd3 : FuncData} {c : ClsW} (Fn : FunC K "shares" "shares" s_shares f fd cs) (X : Txt mg) (TB : LamX.TabB base mg cs Pt) (hmT : (Pt, lamS) ∈ T) (hu : ∀ p ∈ T, p.1 = Pt → p.2 = lamS)
    (F1 : FnOk P w K mg base (L2.CX P w) 5 f1 fd1 ["plan", "told", "chances", "wrong", "most"] (sx_cw K T c)) (k1 : PySem.W.keepIn K (.ref f1) = true) (b1 : Binds K fd1 ["plan", "told", "chances", "wrong", "most"] []) (m1 : mg "checked_weights" = some (.ref f1))
    (F2 : FnOk P w K mg base CX0 1 f2 fd2 ["rows"] (sp_sum_of K T)) (k2 : PySem.W.keepIn K (.ref f2) = true) (b2 : Binds K fd2 ["rows"] []) (m2 : mg "sum_of" = some (.ref f2))
    (F3 : FnOk P w K mg base CX0 1 f3 fd3 ["top", "under"] (sp_fraction K T)) (k3 : PySem.W.keepIn K (.ref f3) = true) (b3 : Binds K fd3 ["top", "under"] []) (m3 : mg "fraction" = some (.ref f3)) :
    FnOk P w K mg base (L2.CX P w) 6 f fd ["plan", "told", "chances", "wrong", "most"] (sx_sharesL K T c.N) := by
  refine okXL_FunC Fn sc_shares (fun os ⟨_, _, _, _, _, _, e, _⟩ => by rw [e]; rfl) fun A outer s H E' hr => ?_
  have hr1 : Room 1 (A.deeper (envOfC "shares" (defScope s_shares) s.heap.objs.size f (.ref cs))) := hr.mono (by decide)
  refine ⟨_, (pss_cons (ps_set (i := 5) sc_shares.nd rfl (by first | exact Or.inl rfl | exact Or.inr rfl) (pe_call F1 hr (by rfl) m1 k1 b1 .nil (passes_call (takes_of (E := E') rfl rfl rfl rfl) fun _ _ _ _ h => h) (pa_cons (pv 0) (pa_cons (pv 1) (pa_cons (pv 2) (pa_cons (pv 3) (pa_cons (pv 4) pa_nil)))))))
  (pss_cons (ps_set (i := 6) sc_shares.nd rfl (by first | exact Or.inl rfl | exact Or.inr rfl) (pe_call F2 hr1 (by rfl) m2 k2 b2 .nil pass0 (pa_cons (pv 5) pa_nil)))
  (pss_cons (ps_set (i := 7) sc_shares.nd rfl (by first | exact Or.inl rfl | exact Or.inr rfl) (pe_sortNeg (T := T) (pv 5) hr (by rfl) X.sorted TB (by rfl) hmT hu (by rfl) (by decide +kernel) (by intros; rfl) (by rfl) (by decide +kernel) (by rfl) (by rfl) (by rfl) (by rfl)))
  (pss_one (ps_ret (pe_lc (g := gTup K 2 (gCons (gName 8) (gCons (gName 9) gNil))) (own := [("lot", 8), ("weight", 9)]) rfl sc_shares.nd (pi_list (pv 7)) (blkOk_by (N := ["plan", "told", "chances", "wrong", "most", "rows", "total", "falling", "lot", "weight"]) (sc := defScope s_shares) (by decide +kernel)) (fun _ _ _ _ _ => (pg_tup rfl (pgs_cons (pg_name (i := 8) sc_shares.nd rfl (by first | exact Or.inl rfl | exact Or.inr rfl)) (pgs_cons (pg_name (i := 9) sc_shares.nd rfl (by first | exact Or.inl rfl | exact Or.inr rfl)) pgs_nil)))) (fun _ _ _ _ _ => pts_nil) (fun _ _ _ _ _ => (pe_tup (pa_cons (pv 8) (pa_cons (pe_call F3 hr1 (by rfl) m3 k3 b3 .nil pass0 (pa_cons (pv 9) (pa_cons (pv 6) pa_nil))) pa_nil)))))))))), ?_⟩
  rintro os ⟨n, ps, ts, cs', w', k, rfl, pre⟩
  refine sx_seq (sx_asg (ex_cw pre rfl rfl rfl rfl rfl) fun d ⟨hne, ed⟩ => ?_)
  subst ed
  obtain ⟨t0, tl⟩ := pre.tot hne
  have hlen : (rowsW n ps ts cs' w' k).length < 1000 := Nat.lt_of_le_of_lt rows_len pre.len
  refine sx_seq (sx_of (s_asg (d := .int (sumW (rowsW n ps ts cs' w' k))) (e_call (os := dats [rowsD (rowsW n ps ts cs' w' k)]) (a_cons e_var a_nil) ⟨rowsW n ps ts cs' w' k, rfl, by omega⟩ fun d hd => hd _ rfl) ?_))
  refine sx_seq (sx_of (s_asg (EL.is (el_sortN (rs := rowsW n ps ts cs' w' k) e_var)) ?_))
  have hfl : (fallL (rowsW n ps ts cs' w' k)).length = (rowsW n ps ts cs' w' k).length := (List.mergeSort_perm _ _).length_eq
  refine sx_of (s_retL (P := (· = sharesL (rowsW n ps ts cs' w' k))) ((el_lcM (vs := [8, 9]) (shareD (sumW (rowsW n ps ts cs' w' k))) (i_list e_var) (fun d hd => ?_) (by rw [List.length_map, hfl]; omega)).imp fun ds e => ?_) fun ds e => ⟨n, ps, ts, cs', w', k, rfl, pre, hne, e⟩)
  · obtain ⟨q, hq, rfl⟩ := List.mem_map.mp hd
    exact ⟨_, tg_pair (by decide) (by decide), e_tup (ds := [q.1, fracD q.2 (sumW (rowsW n ps ts cs' w' k))]) (a_cons e_var (a_cons (e_call (os := dats [.int q.2, .int (sumW (rowsW n ps ts cs' w' k))]) (a_cons e_var (a_cons e_var a_nil)) ⟨_, _, rfl, t0, tl⟩ fun d hd => hd _ _ rfl) a_nil)) (by show 2 ≤ 100000; decide)⟩
  · rw [e, List.map_map]
    rfl
/-! each -/
theorem sc_each : FnScope ["plan", "told", "chances", "wrong", "most", "rows", "total", "thing", "row", "having", "part"] ["plan", "told", "chances", "wrong", "most"] (defScope s_each) := ⟨rfl, rfl, rfl, by decide +kernel, rfl, by decide +kernel, by decide +kernel⟩
def hasR (t : Nat) (q : PyData × Int) : Bool := hasD (lotL q.1) t
def eachL (n : Nat) (rs : List (PyData × Int)) : List PyData := (List.range n).map fun t => fracD (sumW (rs.filter (hasR t))) (sumW rs)
abbrev sx_eachL (K : PySem.W.Frag) (T : List (Addr × Str)) (CN : Addr) : Sp := spXL K T goodW (fun os ds => okL os eachL ds) (noL CN)
def hasRow (d : PyData) : PyData → Bool
  | .tuple [.tuple l, _] => memD l d
  | _ => false
theorem rowD_filter (t : Nat) (rs : List (PyData × Int)) (h : ∀ q ∈ rs, ∃ xs, q.1 = .tuple xs) : (rs.map rowD).filter (hasRow (.int t)) = (rs.filter (hasR t)).map rowD := by
  induction rs with
  | nil => rfl
  | cons q r ih =>
    have e : hasRow (.int t) (rowD q) = hasR t q := by
      obtain ⟨xs, e⟩ := h q (List.mem_cons_self ..)
      obtain ⟨a, b⟩ := q
      have e : a = .tuple xs := e
      subst e
      rfl
    rw [List.map_cons, List.filter_cons, List.filter_cons, e, ih fun q hq => h q (List.mem_cons_of_mem _ hq)]
    cases hasR t q <;> rfl
def partD (rs : List (PyData × Int)) : PyData → PyData
  | .int i => .list ((rs.filter (hasR i.toNat)).map rowD)
  | _ => .none
theorem sum_filter {rs : List (PyData × Int)} (p : PyData × Int → Bool) (h : rs.length < 1000) : (rs.filter p).length ≤ 1000 := by
  have := List.length_filter_le p rs
  omega
theorem ok_eachL {f f1 f2 f3 : Addr} {fd fd1 fd2 fd3 : FuncData} {c : ClsW} (Fn : Fun K "each" "each" s_each f fd) (X : Txt mg)
    (F1 : FnOk P w K mg base (L2.CX P w) 5 f1 fd1 ["plan", "told", "chances", "wrong", "most"] (sx_cw K T c)) (k1 : PySem.W.keepIn K (.ref f1) = true) (b1 : Binds K fd1 ["plan", "told", "chances", "wrong", "most"] []) (m1 : mg "checked_weights" = some (.ref f1))
    (F2 : FnOk P w K mg base CX0 1 f2 fd2 ["rows"] (sp_sum_of K T)) (k2 : PySem.W.keepIn K (.ref f2) = true) (b2 : Binds K fd2 ["rows"] []) (m2 : mg "sum_of" = some (.ref f2))
    (F3 : FnOk P w K mg base CX0 1 f3 fd3 ["top", "under"] (sp_fraction K T)) (k3 : PySem.W.keepIn K (.ref f3) = true) (b3 : Binds K fd3 ["top", "under"] []) (m3 : mg "fraction" = some (.ref f3)) :
    FnOk P w K mg base (L2.CX P w) 6 f fd ["plan", "told", "chances", "wrong", "most"] (sx_eachL K T c.N) := by
  refine ok_defXL Fn sc_each (fun os ⟨_, _, _, _, _, _, e, _⟩ => by rw [e]; rfl) fun cdv A outer s H E' hr => ?_
  have hr1 : Room 1 (A.deeper (envOfC "each" (defScope s_each) s.heap.objs.size f cdv)) := hr.mono (by decide)
  refine ⟨_, (pss_cons (ps_set (i := 5) sc_each.nd rfl (by first | exact Or.inl rfl | exact Or.inr rfl) (pe_call F1 hr (by rfl) m1 k1 b1 .nil (passes_call (takes_of (E := E') rfl rfl rfl rfl) fun _ _ _ _ h => h) (pa_cons (pv 0) (pa_cons (pv 1) (pa_cons (pv 2) (pa_cons (pv 3) (pa_cons (pv 4) pa_nil)))))))
  (pss_cons (ps_set (i := 6) sc_each.nd rfl (by first | exact Or.inl rfl | exact Or.inr rfl) (pe_call F2 hr1 (by rfl) m2 k2 b2 .nil pass0 (pa_cons (pv 5) pa_nil)))
  (pss_cons (ps_setLc (i := 9) (te := tLc (iList K (tVar 5)) (gName 8) (tB (tOp (rIn K false) (tVar 7) (tOp (rIxT K) (tVar 8) (tC (.int 0))))) (tVar 8) [8]) (own := [("thing", 7)]) rfl sc_each.nd rfl rfl (sw_true rfl rfl rfl (by decide +kernel)) (pi_range1 rfl X.range (pa_cons (pe_ix (r := rIxT K) ix_tup (pv 0) pe_int (fun _ _ => rfl)) pa_nil)) (blkOk_by (N := ["plan", "told", "chances", "wrong", "most", "rows", "total", "thing", "row", "having", "part"]) (sc := defScope s_each) (by decide +kernel)) (fun _ _ _ _ _ => (pg_name (i := 7) sc_each.nd rfl (by first | exact Or.inl rfl | exact Or.inr rfl))) (fun _ _ _ _ _ => pts_nil)
    (fun _ _ _ _ _ => (pe_lc (wi := iList K (tVar 5)) (tt := tB (tOp (rIn K false) (tVar 7) (tOp (rIxT K) (tVar 8) (tC (.int 0))))) (te := tVar 8) (own := [("row", 8)]) rfl sc_each.nd (pi_list (pv 5)) (by exact blkOk_by (by rfl)) (fun _ _ _ _ _ => (pg_name (i := 8) sc_each.nd rfl (by first | exact Or.inl rfl | exact Or.inr rfl))) (fun _ _ _ _ _ => (pts_one (pt_cmpR (r := rIn K false) op_in_seq (pv 7) (pe_ix (r := rIxT K) ix_tup (pv 8) pe_int (fun _ _ => rfl)) (by rfl)))) (fun _ _ _ _ _ => (pv 8)))))
  (pss_one (ps_ret (pe_lc (te := tCall (sp_fraction K T) [] E0 (tCons (tCall (sp_sum_of K T) [] E0 (tCons (tVar 10) tNil)) (tCons (tVar 6) tNil))) (own := [("part", 10)]) rfl sc_each.nd (pi_list (pv 9)) (blkOk_by (N := ["plan", "told", "chances", "wrong", "most", "rows", "total", "thing", "row", "having", "part"]) (sc := defScope s_each) (by decide +kernel)) (fun _ _ _ _ _ => (pg_name (i := 10) sc_each.nd rfl (by first | exact Or.inl rfl | exact Or.inr rfl))) (fun _ _ _ _ _ => pts_nil) (fun _ _ _ _ _ => (pe_call F3 hr1 (by rfl) m3 k3 b3 .nil pass0 (pa_cons (pe_call F2 hr1 (by rfl) m2 k2 b2 .nil pass0 (pa_cons (pv 10) pa_nil)) (pa_cons (pv 6) pa_nil)))))))))), ?_⟩
  rintro os ⟨n, ps, ts, cs', w', k, rfl, pre⟩
  refine sx_seq (sx_asg (ex_cw pre rfl rfl rfl rfl rfl) fun d ⟨hne, ed⟩ => ?_)
  subst ed
  obtain ⟨t0, tl⟩ := pre.tot hne
  have hlen : (rowsW n ps ts cs' w' k).length < 1000 := Nat.lt_of_le_of_lt rows_len pre.len
  have lots : ∀ q ∈ rowsW n ps ts cs' w' k, ∃ xs, q.1 = .tuple xs ∧ FlatT xs := fun q hq => by
    obtain ⟨l, hl, e⟩ := List.mem_map.mp (List.mem_filter.mp hq).1
    rw [← e]
    exact pre.lot hl
  have h10 := pre.g.n10
  refine sx_seq (sx_of (s_asg (d := .int (sumW (rowsW n ps ts cs' w' k))) (e_call (os := dats [rowsD (rowsW n ps ts cs' w' k)]) (a_cons e_var a_nil) ⟨rowsW n ps ts cs' w' k, rfl, by omega⟩ fun d hd => hd _ rfl) ?_))
  have hne0 := hne
  obtain ⟨rs, hrs⟩ : ∃ rs, rs = rowsW n ps ts cs' w' k := ⟨_, rfl⟩
  rw [← hrs] at hne t0 tl hlen lots ⊢
  refine sx_seq (sx_of (s_asg (d := .list ((rng n).map (partD rs))) (EL.is (el_lcM (vs := [7]) (partD rs) (i_rngN (n := n) (a_cons (e_ixT (i := 0) e_var e_int rfl) a_nil) (by omega)) (fun d hd => ?_) (by rw [rng_length]; omega))) ?_))
  · obtain ⟨t, ht, rfl⟩ := mem_rng hd
    refine ⟨_, tg_name (by decide), E.is (EL.is (el_lcD (vs := [8]) (ds := rs.map rowD) (hasRow (.int t)) (fun d => d) (i_list e_var) (fun d hd => ?_) (by rw [List.length_map]; omega))) ?_⟩
    · obtain ⟨⟨a, b⟩, hq, rfl⟩ := List.mem_map.mp hd
      obtain ⟨xs, e, hx⟩ := lots _ hq
      have e : a = .tuple xs := e
      subst e
      exact ⟨_, tg_name (by decide), t_B (e_inSeq e_var (e_ixT (i := 0) e_var e_int rfl) (.inr rfl) rfl hx.1), fun _ => e_var⟩
    · rw [List.map_id', rowD_filter t rs fun q hq => let ⟨xs, e, _⟩ := lots q hq; ⟨xs, e⟩]
      rfl
  have hlr : ((rng n).map (partD rs)).length = n := by rw [List.length_map, rng_length]
  refine sx_of (s_retL (P := (· = eachL n rs)) ((el_lc (vs := [10]) (fun i acc => acc = (List.range i).map fun t => fracD (sumW (rs.filter (hasR t))) (sumW rs)) (i_list e_var) rfl (fun i d acc hi hd hI => ?_) (by rw [hlr]; omega)).imp fun ds e => ?_) fun ds e => ?_)
  · have hd : ((rng n).map (partD rs))[i]? = some d := hd
    have hi' : i < n := by rw [hlr] at hi; exact hi
    rw [List.getElem?_map, rng_get hi'] at hd
    have hd : d = .list ((rs.filter (hasR i)).map rowD) := (Option.some.inj hd).symm
    subst hd
    exact ⟨_, tg_name (by decide), (· = true), t_yes, (fun z => by cases z), fun _ => ⟨(· = fracD (sumW (rs.filter (hasR i))) (sumW rs)), e_call (os := dats [.int (sumW (rs.filter (hasR i))), .int (sumW rs)]) (a_cons (e_call (os := dats [.list ((rs.filter (hasR i)).map rowD)]) (a_cons e_var a_nil) ⟨_, rfl, sum_filter _ hlen⟩ fun d hd => hd _ rfl) (a_cons e_var a_nil)) ⟨_, _, rfl, t0, tl⟩ fun d hd => hd _ _ rfl, fun y hy => by rw [hI, hy, List.range_succ, List.map_append]; rfl⟩⟩
  · rw [e, hlr]
    rfl
  · exact ⟨n, ps, ts, cs', w', k, rfl, pre, hne0, by rw [e, hrs]⟩
end
end K17

namespace K17
open PySem PySem.Spec L2 Dv DvC DvT
open PyProof.Rows hiding St
section
variable {P : Program} {w : World} {K : PySem.W.Frag} {mg : Str → Option Value} {base : Heap} {T : List (Addr × Str)}
section
variable {G : Dv.Ctx} {Ech : XK} {Xs : Xd → Prop} {CC : Addr} {i : Nat} {m : PyData}
theorem ex_count {ta tb : TE} {lo hi : Int} {te : TE} (hg : E K T te G (· = m)) (ha : E K T ta G (· = .int lo)) (hb : E K T tb G (· = .int hi)) (z : Txt2 "no number from " " to " lo hi) (hx : withinD m lo hi = false → Xs ⟨CC, none⟩) : EX K T Ech (tCall (sx_check_count K T CC) [] Ech (tCons te (tCons ta (tCons tb tNil)))) G (fun _ => withinD m lo hi = true) Xs :=
  ex_call (os := dats [m, .int lo, .int hi]) (a_cons hg (a_cons ha (a_cons hb a_nil))) ⟨m, lo, hi, rfl, z⟩ (fun r ⟨d', lo', hi', z, hn, _⟩ => by
    have z := dats_inj z
    simp only [List.cons.injEq, PyData.int.injEq] at z
    obtain ⟨rfl, rfl, rfl, _⟩ := z
    exact hn) fun x ⟨d', lo', hi', z, hk, ex⟩ => by
    have z := dats_inj z
    simp only [List.cons.injEq, PyData.int.injEq] at z
    obtain ⟨rfl, rfl, rfl, _⟩ := z
    rw [ex]
    exact hx hk
end
/-! slips -/
def slipB : PyData → Bool
  | .tuple [a, b] => !isNone a && !eqD a b
  | _ => false
def slipsN (ts rs : List PyData) : Nat := ((zipD ts rs).filter slipB).length
def F_slips_in : List PyData → PyData
  | [.tuple ts, .tuple rs] => .int (slipsN ts rs)
  | _ => .none
theorem sum_ones {α : Type} : ∀ l : List α, (l.map fun _ => (1 : Int)).sum = l.length
  | [] => rfl
  | x :: r => by rw [List.map_cons, List.sum_cons, sum_ones r, List.length_cons]; omega
theorem ans_or {d : PyData} (h : isAnsD d = true) : d = .none ∨ d = .int 0 ∨ d = .int 1 := by
  cases d with
  | none => exact .inl rfl
  | int i =>
    have h' : (decide ((0 : Int) ≤ i) && decide (i ≤ 1)) = true := h
    rw [Bool.and_eq_true] at h'
    have a := of_decide_eq_true h'.1
    have b := of_decide_eq_true h'.2
    rcases (show i = 0 ∨ i = 1 by omega) with rfl | rfl
    · exact .inr (.inl rfl)
    · exact .inr (.inr rfl)
  | _ => cases h
theorem mem_zipD {ts rs : List PyData} {d : PyData} (h : d ∈ zipD ts rs) : ∃ a b, d = .tuple [a, b] ∧ a ∈ ts ∧ b ∈ rs := by
  obtain ⟨p, hp, rfl⟩ := List.mem_map.mp h
  obtain ⟨h1, h2⟩ := List.of_mem_zip (a := p.1) (b := p.2) hp
  exact ⟨p.1, p.2, rfl, h1, h2⟩
theorem sc_slips_in : FnScope ["told", "right", "one", "other"] ["told", "right"] (defScope s_slips_in) := ⟨rfl, rfl, rfl, by decide +kernel, rfl, by decide +kernel, by decide +kernel⟩
abbrev sp_slips_in (K : PySem.W.Frag) (T : List (Addr × Str)) : Sp := spD K T (fun ds => ∃ ts rs, ds = [.tuple ts, .tuple rs] ∧ ts.length = rs.length ∧ ts.length ≤ 1000 ∧ (∀ d ∈ ts, isAnsD d = true) ∧ ∀ d ∈ rs, IntD d) F_slips_in
theorem ok_slips_in {f : Addr} {fd : FuncData} (Fn : Fun K "slips_in" "slips_in" s_slips_in f fd) (X : Txt mg) :
    FnOk P w K mg base CX0 1 f fd ["told", "right"] (sp_slips_in K T) := by
  refine ok_defD Fn sc_slips_in (fun ds ⟨_, _, e, _⟩ => by rw [e]; rfl) fun cdv A outer s H E' hr => ?_
  refine ⟨_, (pss_one (ps_ret (pe_callB (r := rSum K) (cr_sum rfl) (by rfl) X.sum bt_sum (pa_cons (pe_lc (g := gTup K 2 (gCons (gName 2) (gCons (gName 3) gNil))) (own := [("one", 2), ("other", 3)]) rfl sc_slips_in.nd (RZ.pi_zipA (by rfl) X.zip (pa_cons (pv 0) (pa_cons (pv 1) pa_nil))) (blkOk_by (N := ["told", "right", "one", "other"]) (sc := defScope s_slips_in) (by decide +kernel)) (fun _ _ _ _ _ => (pg_tup rfl (pgs_cons (pg_name (i := 2) sc_slips_in.nd rfl (by first | exact Or.inl rfl | exact Or.inr rfl)) (pgs_cons (pg_name (i := 3) sc_slips_in.nd rfl (by first | exact Or.inl rfl | exact Or.inr rfl)) pgs_nil)))) (fun _ _ _ _ _ => (pts_one (PW.pt (pw_and (pt_cmp (pc_notN (pv 2)) rfl) (pw_and1 (pt_cmpR op_ne (pv 2) (pv 3) (nomark _))))))) (fun _ _ _ _ _ => pe_int)) pa_nil)))), ?_⟩
  rintro ds ⟨ts, rs, rfl, hl, hn, h1, h2⟩
  have hz : (zipD ts rs).length = ts.length := by simp [zipD, hl]
  have comp := el_lcD (K := K) (T := T) (vs := [2, 3]) slipB (fun _ => .int 1) (i_zipD (K' := K) (G := [some (.dat (.tuple ts)), some (.dat (.tuple rs)), none, none]) (a_cons (e_var (i := 0)) (a_cons (e_var (i := 1)) a_nil)) hl) (tt := tAnd (tB (tNotN (tVar 2))) (tB (tOp rNe (tVar 2) (tVar 3)))) (te := tC (.int 1)) (g := gTup K 2 (gCons (gName 2) (gCons (gName 3) gNil))) (fun d hd => ?_) (by omega)
  · have e1 : ((zipD ts rs).filter slipB).map (fun _ => PyData.int 1) = (((zipD ts rs).filter slipB).map fun _ => (1 : Int)).map .int := by rw [List.map_map]; rfl
    rw [e1] at comp
    exact s_ret ((e_sum (a_cons comp.is a_nil)).is (congrArg PyData.int (sum_ones _))) rfl
  · obtain ⟨a, b, rfl, ha, hb⟩ := mem_zipD hd
    refine ⟨_, tg_pair (by decide) (by decide), ET.is (t_and (t_B (e_notN e_var)) fun h => t_B (e_ne e_var e_var ?_)) rfl, fun _ => e_int⟩
    obtain ⟨i, rfl⟩ := h2 b hb
    rcases ans_or (h1 a ha) with rfl | rfl | rfl <;> rfl
/-! how many lots have a thing -/
def inLot (d : PyData) : PyData → Bool
  | .tuple xs => memD xs d
  | _ => false
def haveN (d : PyData) (ls : List PyData) : Nat := (ls.filter (inLot d)).length
def F_how_many_have : List PyData → PyData
  | [d, .list ls] => .int (haveN d ls)
  | _ => .none
theorem sc_how_many_have : FnScope ["thing", "lots", "lot"] ["thing", "lots"] (defScope s_how_many_have) := ⟨rfl, rfl, rfl, by decide +kernel, rfl, by decide +kernel, by decide +kernel⟩
def FlatLs (ls : List PyData) : Prop := ls.length ≤ 1000 ∧ ∀ l ∈ ls, ∃ xs, l = .tuple xs ∧ FlatT xs
abbrev sp_how_many_have (K : PySem.W.Frag) (T : List (Addr × Str)) : Sp := spD K T (fun ds => ∃ (i : Int) (ls : List PyData), ds = [.int i, .list ls] ∧ FlatLs ls) F_how_many_have
theorem ok_how_many_have {f : Addr} {fd : FuncData} (Fn : Fun K "how_many_have" "how_many_have" s_how_many_have f fd) (X : Txt mg) :
    FnOk P w K mg base CX0 1 f fd ["thing", "lots"] (sp_how_many_have K T) := by
  refine ok_defD Fn sc_how_many_have (fun ds ⟨_, _, e, _⟩ => by rw [e]; rfl) fun cdv A outer s H E' hr => ?_
  refine ⟨_, (pss_one (ps_ret (pe_callB (r := rSum K) (cr_sum rfl) (by rfl) X.sum bt_sum (pa_cons (pe_lc (own := [("lot", 2)]) rfl sc_how_many_have.nd (pi_list (pv 1)) (blkOk_by (N := ["thing", "lots", "lot"]) (sc := defScope s_how_many_have) (by decide +kernel)) (fun _ _ _ _ _ => (pg_name (i := 2) sc_how_many_have.nd rfl (by first | exact Or.inl rfl | exact Or.inr rfl))) (fun _ _ _ _ _ => (pts_one (pt_cmpR (r := rIn K false) op_in_seq (pv 0) (pv 2) (by rfl)))) (fun _ _ _ _ _ => pe_int)) pa_nil)))), ?_⟩
  rintro ds ⟨i, ls, rfl, hn, h⟩
  have comp := el_lcD (K := K) (T := T) (vs := [2]) (inLot (.int i)) (fun _ => .int 1) (i_list (K' := K) (G := [some (.dat (.int i)), some (.dat (.list ls)), none]) (e_var (i := 1))) (tt := tB (tOp (rIn K false) (tVar 0) (tVar 2))) (te := tC (.int 1)) (g := gName 2) (fun d hd => ?_) (Nat.le_trans hn (by decide))
  · have e1 : (ls.filter (inLot (.int i))).map (fun _ => PyData.int 1) = ((ls.filter (inLot (.int i))).map fun _ => (1 : Int)).map .int := by rw [List.map_map]; rfl
    rw [e1] at comp
    exact s_ret ((e_sum (a_cons comp.is a_nil)).is (congrArg PyData.int (sum_ones _))) rfl
  · obtain ⟨xs, rfl, hx⟩ := h d hd
    exact ⟨_, tg_name (by decide), t_B (e_inSeq e_var e_var (.inr rfl) rfl hx.1), fun _ => e_int⟩
/-! a def that may raise, where nothing is let out; the checks, for what is right -/
theorem fn_cx0 {f : Addr} {fd : FuncData} {ps : List Str} {k : Nat} {sp sp' : Sp} (F : FnOk P w K mg base (L2.CX P w) k f fd ps sp) (h : ∀ vs H Q E, sp' vs H Q E → sp vs H Q (fun _ _ _ => False)) : FnOk P w K mg base CX0 k f fd ps sp' :=
  ⟨fun vs H Q E q => F.len vs H Q _ (h _ _ _ _ q), fun A outer s H args us vs Q E hr he hb hv hs => codeAny_mono (F.run A outer s H args us vs Q _ hr he hb hv (h _ _ _ _ hs)) fun r s' z => by
    cases r with
    | error e =>
      obtain ⟨_, _, _, _, _, _, _, _, _, _, _, _, z⟩ := (show L2.CX P w outer H s (fun _ _ _ => False) e s' from z)
      exact z.elim
    | ok fl =>
      cases fl with
      | ret u => exact z
      | next => exact z
      | brk => exact z
      | cont => exact z⟩
theorem fn_good {f : Addr} {fd : FuncData} {ps : List Str} {k : Nat} {pre pre' : List Ob → Prop} {post post' : List Ob → PyData → Prop} {exc : List Ob → Xd → Prop} (F : FnOk P w K mg base (L2.CX P w) k f fd ps (spX K T pre post exc)) (h : ∀ os, pre' os → pre os ∧ (∀ d, post os d → post' os d) ∧ ∀ x, ¬ exc os x) : FnOk P w K mg base CX0 k f fd ps (spA K T pre' post') :=
  fn_cx0 F fun vs H Q E ⟨W, os, j, dv, hp, q⟩ => by
    obtain ⟨h1, h2, h3⟩ := h os hp
    exact ⟨W, os, j, dv, h1, fun v d H' e j' dv' z => q v d H' e j' dv' (h2 d z), fun c d x H' _ _ _ z => (h3 x z).elim⟩
theorem fn_goodD {f : Addr} {fd : FuncData} {ps : List Str} {k : Nat} {pre : List Ob → Prop} {pre' : List PyData → Prop} {F' : List PyData → PyData} {post : List Ob → PyData → Prop} {exc : List Ob → Xd → Prop} (F : FnOk P w K mg base (L2.CX P w) k f fd ps (spX K T pre post exc)) (h : ∀ ds, pre' ds → pre (dats ds) ∧ (∀ d, post (dats ds) d → d = F' ds) ∧ ∀ x, ¬ exc (dats ds) x) : FnOk P w K mg base CX0 k f fd ps (spD K T pre' F') :=
  fn_good F fun os ⟨ds, e, hp⟩ => by
    subst e
    obtain ⟨h1, h2, h3⟩ := h ds hp
    exact ⟨h1, fun d z => ⟨ds, rfl, h2 d z⟩, h3⟩
theorem sc_check_slips : FnScope ["slips"] ["slips"] (defScope s_check_slips) := ⟨rfl, rfl, rfl, by decide +kernel, rfl, by decide +kernel, by decide +kernel⟩
abbrev sx_check_slips (K : PySem.W.Frag) (T : List (Addr × Str)) (CC : Addr) : Sp := spX K T (fun os => ∃ d, os = dats [d]) (fun os r => ∃ d, os = dats [d] ∧ withinD d 0 16 = true ∧ r = .none) (fun os x => ∃ d, os = dats [d] ∧ withinD d 0 16 = false ∧ x = ⟨CC, none⟩)
theorem slips_txt : Txt2 "no number from " " to " 0 16 := ⟨by decide +kernel, by decide +kernel, by decide +kernel, by decide +kernel, by decide +kernel, by decide +kernel⟩
theorem ok_check_slipsX {f f1 CC : Addr} {fd fd1 : FuncData} (Fn : Fun K "check_slips" "check_slips" s_check_slips f fd) (X : Txt mg) (F1 : FnOk P w K mg base (L2.CX P w) 2 f1 fd1 ["value", "low", "high"] (sx_check_count K T CC)) (k1 : PySem.W.keepIn K (.ref f1) = true) (b1 : Binds K fd1 ["value", "low", "high"] []) (m1 : mg "check_count" = some (.ref f1)) :
    FnOk P w K mg base (L2.CX P w) 3 f fd ["slips"] (sx_check_slips K T CC) := by
  refine ok_defX Fn sc_check_slips (fun os ⟨_, e⟩ => by rw [e]; rfl) fun cdv A outer s H E' hr => ?_
  obtain ⟨tb, mb⟩ := X.MOST_SLIPS
  refine ⟨_, (pss_one (ps_expr (pe_call F1 hr (by rfl) m1 k1 b1 .nil (passes_call (takes_of (E := E') rfl rfl rfl rfl) fun _ _ _ _ h => h) (pa_cons (pv 0) (pa_cons pe_int (pa_cons (pe_glob (v := .int 16) (by rfl) mb ⟨_, rfl⟩) pa_nil)))))), ?_⟩
  rintro os ⟨d, rfl⟩
  exact sx_drop (ex_count e_var e_int e_int slips_txt fun h => ⟨d, rfl, h, rfl⟩) fun _ h => ⟨d, rfl, h, rfl⟩
abbrev sp_check_answers (K : PySem.W.Frag) (T : List (Addr × Str)) : Sp := spD K T (fun ds => ∃ (ts : List PyData), ds = [.tuple ts, .int ts.length] ∧ (∀ d ∈ ts, isAnsD d = true) ∧ ts.length ≤ 16) F_none
abbrev sp_check_most (K : PySem.W.Frag) (T : List (Addr × Str)) : Sp := spD K T (fun ds => ∃ i : Int, ds = [.int i] ∧ 0 ≤ i ∧ i ≤ 3) F_none
abbrev sp_check_slips (K : PySem.W.Frag) (T : List (Addr × Str)) : Sp := spD K T (fun ds => ∃ i : Int, ds = [.int i] ∧ 0 ≤ i ∧ i ≤ 16) F_none
theorem within_ok {i lo hi : Int} (h : lo ≤ i ∧ i ≤ hi) : withinD (.int i) lo hi = true := by
  show (decide (lo ≤ i) && decide (i ≤ hi)) = true
  rw [decide_eq_true h.1, decide_eq_true h.2]
  rfl
theorem gd_answers {f CA : Addr} {fd : FuncData} {k : Nat} (F : FnOk P w K mg base (L2.CX P w) k f fd ["told", "many"] (sx_check_answers K T CA)) : FnOk P w K mg base CX0 k f fd ["told", "many"] (sp_check_answers K T) :=
  fn_goodD F fun ds ⟨ts, e, h, hl⟩ => by
    subst e
    have hX : firstX isAnsD ts.length (.tuple ts) = .none := firstX_ok rfl h
    refine ⟨⟨_, ts.length, rfl, hl⟩, fun d ⟨_, _, _, _, e⟩ => e, fun x ⟨d', k, j, z, hk, _⟩ => ?_⟩
    have z := dats_inj z
    have z1 := (List.cons.inj z).1
    have z2 := PyData.int.inj (List.cons.inj (List.cons.inj z).2).1
    obtain rfl : ts.length = k := by omega
    rw [← z1, hX] at hk
    cases hk
theorem gd_most {f CC : Addr} {fd : FuncData} {k : Nat} (F : FnOk P w K mg base (L2.CX P w) k f fd ["most"] (sx_check_most K T CC)) : FnOk P w K mg base CX0 k f fd ["most"] (sp_check_most K T) :=
  fn_goodD F fun ds ⟨i, e, h⟩ => by
    subst e
    refine ⟨⟨_, rfl⟩, fun d ⟨_, _, _, e⟩ => e, fun x ⟨d', z, hk, _⟩ => ?_⟩
    have z := (List.cons.inj (dats_inj z)).1
    rw [← z, within_ok h] at hk
    cases hk
theorem gd_slips {f CC : Addr} {fd : FuncData} {k : Nat} (F : FnOk P w K mg base (L2.CX P w) k f fd ["slips"] (sx_check_slips K T CC)) : FnOk P w K mg base CX0 k f fd ["slips"] (sp_check_slips K T) :=
  fn_goodD F fun ds ⟨i, e, h⟩ => by
    subst e
    refine ⟨⟨_, rfl⟩, fun d ⟨_, _, _, e⟩ => e, fun x ⟨d', z, hk, _⟩ => ?_⟩
    have z := (List.cons.inj (dats_inj z)).1
    rw [← z, within_ok h] at hk
    cases hk
/-! could -/
def cnt (ps ts : List PyData) (l : PyData) : Nat := slipsN ts (ps.map fun p => ansD p l)
def couldL (n : Nat) (ps ts : List PyData) (m sl : Nat) : List PyData := ((lotsN n m).filter fun l => decide (cnt ps ts l ≤ sl)).map fun l => .tuple [l, .int (cnt ps ts l)]
def F_could : List PyData → List PyData
  | [.tuple [.int n, .tuple ps], .tuple ts, .int m, .int sl] => couldL n.toNat ps ts m.toNat sl.toNat
  | _ => []
structure Pre (n : Nat) (ps ts : List PyData) (m sl : Nat) : Prop where
  g : GoodP n ps
  lt : ts.length = ps.length
  ta : ∀ d ∈ ts, isAnsD d = true
  m3 : m ≤ 3
  s16 : sl ≤ 16
theorem Pre.ps_ok {n : Nat} {ps ts : List PyData} {m sl : Nat} (h : Pre n ps ts m sl) : ∀ p ∈ ps, ∃ xs, p = .tuple xs ∧ FlatT xs := fun p hp => probe_ok (h.g.all p hp) h.g.n10
theorem Pre.lot {n : Nat} {ps ts : List PyData} {m sl : Nat} (h : Pre n ps ts m sl) {l : PyData} (hl : l ∈ lotsN n m) : ∃ xs, l = .tuple xs ∧ FlatT xs := by
  have := h.g.n10
  have := h.m3
  obtain ⟨js, rfl, a, _⟩ := lots_ok (by omega) (by omega) hl
  exact ⟨_, rfl, lotD_flat a⟩
theorem Pre.len {n : Nat} {ps ts : List PyData} {m sl : Nat} (h : Pre n ps ts m sl) : (lotsN n m).length < 1000 := by
  have := h.g.n10
  have := h.m3
  exact lots_len n (by omega) m (by omega)
abbrev sp_could (K : PySem.W.Frag) (T : List (Addr × Str)) : Sp := spDL K T (fun ds => ∃ (n : Nat) (ps ts : List PyData) (m sl : Nat), ds = [.tuple [.int n, .tuple ps], .tuple ts, .int m, .int sl] ∧ Pre n ps ts m sl) F_could
theorem sc_could : FnScope ["plan", "told", "most", "slips", "things", "probes", "lot", "counted", "count"] ["plan", "told", "most", "slips"] (defScope s_could) := ⟨rfl, rfl, rfl, by decide +kernel, rfl, by decide +kernel, by decide +kernel⟩
def pairV (ps ts : List PyData) (l : PyData) : PyData := .tuple [l, .int (cnt ps ts l)]
def sndLe (sl : Nat) : PyData → Bool
  | .tuple [_, .int c] => decide (c ≤ (sl : Int))
  | _ => false
theorem sndLe_pair {ps ts : List PyData} {sl : Nat} {l : PyData} : sndLe sl (pairV ps ts l) = decide (cnt ps ts l ≤ sl) := by
  show decide ((cnt ps ts l : Int) ≤ (sl : Int)) = _
  exact decide_eq_decide.mpr (by omega)
theorem pair_filter {ps ts : List PyData} {sl : Nat} (L : List PyData) : ((L.map (pairV ps ts)).filter (sndLe sl)).map (fun d => d) = (L.filter fun l => decide (cnt ps ts l ≤ sl)).map fun l => .tuple [l, .int (cnt ps ts l)] := by
  rw [List.map_id']
  induction L with
  | nil => rfl
  | cons x r ih =>
    rw [List.map_cons, List.filter_cons, List.filter_cons, sndLe_pair, ih]
    by_cases h : decide (cnt ps ts x ≤ sl) = true
    · rw [if_pos h, if_pos h]; rfl
    · rw [if_neg h, if_neg h]
theorem ok_could {f f1 f2 f3 f4 f5 f6 f7 : Addr} {fd fd1 fd2 fd3 fd4 fd5 fd6 fd7 : FuncData} (Fn : Fun K "could" "could" s_could f fd) (X : Txt mg)
    (F1 : FnOk P w K mg base CX0 4 f1 fd1 ["plan"] (sp_check_plan K T)) (k1 : PySem.W.keepIn K (.ref f1) = true) (b1 : Binds K fd1 ["plan"] []) (m1 : mg "check_plan" = some (.ref f1))
    (F2 : FnOk P w K mg base CX0 4 f2 fd2 ["told", "many"] (sp_check_answers K T)) (k2 : PySem.W.keepIn K (.ref f2) = true) (b2 : Binds K fd2 ["told", "many"] []) (m2 : mg "check_answers" = some (.ref f2))
    (F3 : FnOk P w K mg base CX0 3 f3 fd3 ["most"] (sp_check_most K T)) (k3 : PySem.W.keepIn K (.ref f3) = true) (b3 : Binds K fd3 ["most"] []) (m3 : mg "check_most" = some (.ref f3))
    (F4 : FnOk P w K mg base CX0 3 f4 fd4 ["slips"] (sp_check_slips K T)) (k4 : PySem.W.keepIn K (.ref f4) = true) (b4 : Binds K fd4 ["slips"] []) (m4 : mg "check_slips" = some (.ref f4))
    (F5 : FnOk P w K mg base CX0 2 f5 fd5 ["things", "most"] (sp_lots_up_to K T)) (k5 : PySem.W.keepIn K (.ref f5) = true) (b5 : Binds K fd5 ["things", "most"] []) (m5 : mg "lots_up_to" = some (.ref f5))
    (F6 : FnOk P w K mg base CX0 1 f6 fd6 ["told", "right"] (sp_slips_in K T)) (k6 : PySem.W.keepIn K (.ref f6) = true) (b6 : Binds K fd6 ["told", "right"] []) (m6 : mg "slips_in" = some (.ref f6))
    (F7 : FnOk P w K mg base CX0 3 f7 fd7 ["probes", "lot"] (sp_answers_of K T)) (k7 : PySem.W.keepIn K (.ref f7) = true) (b7 : Binds K fd7 ["probes", "lot"] []) (m7 : mg "answers_of" = some (.ref f7)) :
    FnOk P w K mg base CX0 5 f fd ["plan", "told", "most", "slips"] (sp_could K T) := by
  refine ok_defDL Fn sc_could (fun ds ⟨_, _, _, _, _, e, _⟩ => by rw [e]; rfl) fun cdv A outer s H E' hr => ?_
  have hr1 : Room 1 (A.deeper (envOfC "could" (defScope s_could) s.heap.objs.size f cdv)) := hr.mono (by decide)
  have hr2 : Room 2 (A.deeper (envOfC "could" (defScope s_could) s.heap.objs.size f cdv)) := hr.mono (by decide)
  have hr3 : Room 3 (A.deeper (envOfC "could" (defScope s_could) s.heap.objs.size f cdv)) := hr.mono (by decide)
  refine ⟨_, (pss_cons (ps_expr (pe_call F1 hr (by rfl) m1 k1 b1 .nil pass0 (pa_cons (pv 0) pa_nil)))
  (pss_cons (ps_asg (pv 0) (pg_tup rfl (pgs_cons (pg_name (i := 4) sc_could.nd rfl (by first | exact Or.inl rfl | exact Or.inr rfl)) (pgs_cons (pg_name (i := 5) sc_could.nd rfl (by first | exact Or.inl rfl | exact Or.inr rfl)) pgs_nil))))
  (pss_cons (ps_expr (pe_call F2 hr (by rfl) m2 k2 b2 .nil pass0 (pa_cons (pv 1) (pa_cons (pe_callB (r := rLenQ K) call_len_seq (by rfl) X.len bt_len (pa_cons (pv 5) pa_nil)) pa_nil))))
  (pss_cons (ps_expr (pe_call F3 hr3 (by rfl) m3 k3 b3 .nil pass0 (pa_cons (pv 2) pa_nil)))
  (pss_cons (ps_expr (pe_call F4 hr3 (by rfl) m4 k4 b4 .nil pass0 (pa_cons (pv 3) pa_nil)))
  (pss_cons (ps_setLc (i := 7) (own := [("lot", 6)]) rfl sc_could.nd rfl rfl (sw_true rfl rfl rfl (by decide +kernel)) (pi_list (pe_call F5 hr2 (by rfl) m5 k5 b5 .nil pass0 (pa_cons (pv 4) (pa_cons (pv 2) pa_nil)))) (blkOk_by (N := ["plan", "told", "most", "slips", "things", "probes", "lot", "counted", "count"]) (sc := defScope s_could) (by decide +kernel)) (fun _ _ _ _ _ => (pg_name (i := 6) sc_could.nd rfl (by first | exact Or.inl rfl | exact Or.inr rfl))) (fun _ _ _ _ _ => pts_nil) (fun _ _ _ _ _ => (pe_tup (pa_cons (pv 6) (pa_cons (pe_call F6 hr1 (by rfl) m6 k6 b6 .nil pass0 (pa_cons (pv 1) (pa_cons (pe_call F7 hr3 (by rfl) m7 k7 b7 .nil pass0 (pa_cons (pv 5) (pa_cons (pv 6) pa_nil))) pa_nil))) pa_nil)))))
  (pss_one (ps_ret (pe_lc (g := gTup K 2 (gCons (gName 6) (gCons (gName 8) gNil))) (own := [("lot", 6), ("count", 8)]) rfl sc_could.nd (pi_list (pv 7)) (blkOk_by (N := ["plan", "told", "most", "slips", "things", "probes", "lot", "counted", "count"]) (sc := defScope s_could) (by decide +kernel)) (fun _ _ _ _ _ => (pg_tup rfl (pgs_cons (pg_name (i := 6) sc_could.nd rfl (by first | exact Or.inl rfl | exact Or.inr rfl)) (pgs_cons (pg_name (i := 8) sc_could.nd rfl (by first | exact Or.inl rfl | exact Or.inr rfl)) pgs_nil)))) (fun _ _ _ _ _ => (pts_one (pt_cmpR op_le (pv 8) (pv 3) (nomark _)))) (fun _ _ _ _ _ => (pe_tup (pa_cons (pv 6) (pa_cons (pv 8) pa_nil))))))))))))), ?_⟩
  rintro ds ⟨n, ps, ts, m, sl, rfl, h⟩
  have hL := h.len
  refine s_seq (s_drop (e_callD (F := F_none) (ds := [.tuple [.int n, .tuple ps]]) (a_cons e_var a_nil) ⟨n, ps, rfl, h.g⟩) ?_)
  refine s_seq (s_asgTg e_var (tg_pair (vs := [4, 5]) (by decide) (by decide)) ?_)
  refine s_seq (s_drop (e_callD (F := F_none) (ds := [.tuple ts, .int ts.length]) (a_cons e_var (a_cons ((e_len (ds := ps) (a_cons e_var a_nil) (.inr rfl)).is (by rw [h.lt])) a_nil)) ⟨ts, rfl, h.ta, by rw [h.lt]; exact h.g.len⟩) ?_)
  refine s_seq (s_drop (e_callD (F := F_none) (ds := [.int m]) (a_cons e_var a_nil) ⟨m, rfl, by omega, by have := h.m3; omega⟩) ?_)
  refine s_seq (s_drop (e_callD (F := F_none) (ds := [.int sl]) (a_cons e_var a_nil) ⟨sl, rfl, by omega, by have := h.s16; omega⟩) ?_)
  have hn10 := h.g.n10
  have hm3 := h.m3
  have h16 := h.g.len
  refine s_seq (s_asg (d := .list ((lotsN n m).map (pairV ps ts))) (EL.is (el_lcM (vs := [6]) (pairV ps ts) (i_list (EL.is (el_callD (F := F_lots_up_to) (ds := [.int n, .int m]) (a_cons e_var (a_cons e_var a_nil)) ⟨n, m, rfl, by omega, by omega⟩))) (fun d hd => ⟨_, tg_name (by decide), ?_⟩) (by show (lotsN n m).length ≤ _; omega))) ?_)
  · obtain ⟨xs, rfl, hx⟩ := h.lot (l := d) hd
    refine e_tup (a_cons e_var (a_cons (d := .int (cnt ps ts (.tuple xs))) (E.is (e_callD (F := F_slips_in) (ds := [.tuple ts, .tuple (ps.map fun p => ansD p (.tuple xs))]) (a_cons e_var (a_cons (e_callD (F := F_answers_of) (ds := [.tuple ps, .tuple xs]) (a_cons e_var (a_cons e_var a_nil)) ⟨ps, xs, rfl, by omega, h.ps_ok, hx⟩) a_nil)) ⟨ts, _, rfl, by rw [List.length_map]; exact h.lt, by have := h.lt; omega, h.ta, fun d hd => ?_⟩) rfl) a_nil)) (by show 2 ≤ 100000; decide)
    obtain ⟨p, hp, rfl⟩ := List.mem_map.mp hd
    exact ans_int (h.ps_ok p hp) ⟨xs, rfl, hx⟩
  refine s_retL (el_lcD (vs := [6, 8]) (sndLe sl) (fun d => d) (i_list e_var) (fun d hd => ?_) (by rw [List.length_map]; omega)) fun d hd => ?_
  · obtain ⟨l, hl, rfl⟩ := List.mem_map.mp hd
    exact ⟨_, tg_pair (by decide) (by decide), t_B (e_cmp (f := fun i j => decide (i ≤ j)) e_var e_var), fun _ => e_tup (a_cons e_var (a_cons e_var a_nil)) (by show 2 ≤ 100000; decide)⟩
  · rw [hd, pair_filter]
    rfl
/-! calls with keywords -/
theorem pair_app {α β : Type} {R : α → β → Prop} : ∀ {a : List α} {b : List β} {c : List α} {d : List β}, Paired R a b → Paired R c d → Paired R (a ++ c) (b ++ d)
  | _, _, _, _, .nil, h => h
  | _, _, _, _, .cons r t, h => .cons r (pair_app t h)
theorem pair_mono {W : Wd K T} {H H' : Hp} (e : Ex W H H') {vs : List V} {os : List Ob} (h : Paired (OD W H) vs os) : Paired (OD W H') vs os := L2.Paired.mapP h fun _ _ z => z.mono e
theorem el_callND {G : Dv.Ctx} {n m : Nat} {gV : List V → List V → List V} {Ex' : XK} {tr tk : TA} {ds es : List PyData} {pre : List PyData → Prop} {F : List PyData → List PyData} (h : EA K T tr G (· = dats ds)) (h2 : EA K T tk G (· = dats es)) (hn : ds.length = n) (hm : es.length = m)
    (hg : ∀ vs zs, gV vs zs = vs ++ zs) (hp : pre (ds ++ es)) : EL K T (tCallN n m (spDL K T pre F) gV Ex' tr tk) G (· = F (ds ++ es)) := fun W σ H s j Q q => h W σ H s j _ fun vs os H1 e1 j1 dv p => h2 W σ H1 (s.mono e1) j1 _ fun zs os2 H2 e2 j2 dz p2 => by
  subst p p2
  have l1 := Paired.length dv
  have l2 := Paired.length dz
  refine ⟨by rw [l1, dats, List.length_map, hn], by rw [l2, dats, List.length_map, hm], W, dats (ds ++ es), j2, ?_, ⟨_, rfl, hp⟩, fun p xs ds' H3 f j3 n3 h3 al ⟨ds2, e3, e4⟩ => q p xs ds' H3 (f.pre (e1.trans e2)) j3 n3 h3 al (by rw [e4, dats_inj e3])⟩
  rw [hg]
  unfold dats
  rw [List.map_append]
  exact pair_app (pair_mono e2 dv) dz
/-- a call whose defaults are known -/
theorem el_callDd {G : Dv.Ctx} {Ex' : XK} {tr : TA} {ds es : List PyData} {dvs : List V} {pre : List PyData → Prop} {F : List PyData → List PyData} (h : EA K T tr G (· = dats ds)) (hd : ∀ (W : Wd K T) (H : Hp), Paired (OD W H) dvs (dats es)) (hp : pre (ds ++ es)) :
    EL K T (tCall (spDL K T pre F) dvs Ex' tr) G (· = F (ds ++ es)) := fun W σ H s j Q q => h W σ H s j _ fun vs os H1 e1 j1 dv p => by
  subst p
  refine ⟨W, dats (ds ++ es), j1, ?_, ⟨_, rfl, hp⟩, fun p xs ds' H3 f j3 n3 h3 al ⟨ds2, e3, e4⟩ => q p xs ds' H3 (f.pre e1) j3 n3 h3 al (by rw [e4, dats_inj e3])⟩
  unfold dats
  rw [List.map_append]
  exact pair_app dv (hd W H1)
theorem e_callDd {G : Dv.Ctx} {Ex' : XK} {tr : TA} {ds es : List PyData} {dvs : List V} {pre : List PyData → Prop} {F : List PyData → PyData} (h : EA K T tr G (· = dats ds)) (hd : ∀ (W : Wd K T) (H : Hp), Paired (OD W H) dvs (dats es)) (hp : pre (ds ++ es)) :
    E K T (tCall (spD K T pre F) dvs Ex' tr) G (· = F (ds ++ es)) := fun W σ H s j Q q => h W σ H s j _ fun vs os H1 e1 j1 dv p => by
  subst p
  refine ⟨W, dats (ds ++ es), j1, ?_, ⟨_, rfl, hp⟩, fun v d H3 f j3 al ⟨ds2, e3, e4⟩ => q v d H3 (e1.trans f) j3 al (by rw [e4, dats_inj e3])⟩
  unfold dats
  rw [List.map_append]
  exact pair_app dv (hd W H1)
theorem e_callND {G : Dv.Ctx} {n m : Nat} {gV : List V → List V → List V} {Ex' : XK} {tr tk : TA} {ds es : List PyData} {pre : List PyData → Prop} {F : List PyData → PyData} (h : EA K T tr G (· = dats ds)) (h2 : EA K T tk G (· = dats es)) (hn : ds.length = n) (hm : es.length = m)
    (hg : ∀ vs zs, gV vs zs = vs ++ zs) (hp : pre (ds ++ es)) : E K T (tCallN n m (spD K T pre F) gV Ex' tr tk) G (· = F (ds ++ es)) := fun W σ H s j Q q => h W σ H s j _ fun vs os H1 e1 j1 dv p => h2 W σ H1 (s.mono e1) j1 _ fun zs os2 H2 e2 j2 dz p2 => by
  subst p p2
  have l1 := Paired.length dv
  have l2 := Paired.length dz
  refine ⟨by rw [l1, dats, List.length_map, hn], by rw [l2, dats, List.length_map, hm], W, dats (ds ++ es), j2, ?_, ⟨_, rfl, hp⟩, fun v d H3 f j3 al ⟨ds2, e3, e4⟩ => q v d H3 ((e1.trans e2).trans f) j3 al (by rw [e4, dats_inj e3])⟩
  rw [hg]
  unfold dats
  rw [List.map_append]
  exact pair_app (pair_mono e2 dv) dz
/-- a test of a list: whether it is empty -/
theorem enum_rng {n : Nat} (g : PyData → PyData) : enumD ((rng n).map g) = (rng n).map fun d => .tuple [d, g d] := by
  apply List.ext_getElem?
  intro i
  unfold enumD rng
  rw [List.getElem?_map, List.getElem?_zipIdx, List.getElem?_map, List.getElem?_map, List.getElem?_map]
  by_cases h : i < n
  · rw [List.getElem?_map, List.getElem?_range h]
    simp
  · have e : (List.range n)[i]? = none := List.getElem?_eq_none (by rw [List.length_range]; omega)
    rw [List.getElem?_map, e]
    rfl
def lotsC (n : Nat) (ps ts : List PyData) (m sl : Nat) : List PyData := (lotsN n m).filter fun l => decide (cnt ps ts l ≤ sl)
def inAll (n : Nat) (ls : List PyData) : List PyData := (rng n).filter fun d => decide (haveN d ls = ls.length)
def inNone (n : Nat) (ls : List PyData) : List PyData := (rng n).filter fun d => decide (haveN d ls = 0)
def sureD (n : Nat) (ps ts : List PyData) (m sl : Nat) : PyData :=
  if (lotsC n ps ts m sl).isEmpty then .none else .tuple [.list (inAll n (lotsC n ps ts m sl)), .list (inNone n (lotsC n ps ts m sl))]
def F_sure : List PyData → PyData
  | [.tuple [.int n, .tuple ps], .tuple ts, .int m, .int sl] => sureD n.toNat ps ts m.toNat sl.toNat
  | _ => .none
abbrev sp_sure (K : PySem.W.Frag) (T : List (Addr × Str)) : Sp := spD K T (fun ds => ∃ (n : Nat) (ps ts : List PyData) (m sl : Nat), ds = [.tuple [.int n, .tuple ps], .tuple ts, .int m, .int sl] ∧ Pre n ps ts m sl) F_sure
def fstD : PyData → PyData
  | .tuple [a, _] => a
  | _ => .none
def sndI (k : Int) : PyData → Bool
  | .tuple [_, .int c] => decide (c = k)
  | _ => false
theorem pick_rng {n : Nat} (k : Nat) (g : PyData → Nat) : ((enumD ((rng n).map fun d => .int (g d))).filter (sndI k)).map fstD = (rng n).filter fun d => decide (g d = k) := by
  rw [enum_rng]
  generalize rng n = L
  induction L with
  | nil => rfl
  | cons x r ih =>
    rw [List.map_cons, List.filter_cons, List.filter_cons]
    have e : sndI k (.tuple [x, .int (g x)]) = decide (g x = k) := by
      show decide ((g x : Int) = (k : Int)) = _
      exact decide_eq_decide.mpr (by omega)
    rw [e]
    by_cases h : decide (g x = k) = true
    · rw [if_pos h, if_pos h, List.map_cons, ih]; rfl
    · rw [if_neg h, if_neg h, ih]
theorem sc_sure : FnScope ["plan", "told", "most", "slips", "lot", "_", "lots", "thing", "having", "count", "in_all", "in_none"] ["plan", "told", "most", "slips"] (defScope s_sure) := ⟨rfl, rfl, rfl, by decide +kernel, rfl, by decide +kernel, by decide +kernel⟩
theorem ok_sure {f f1 f2 : Addr} {fd fd1 fd2 : FuncData} {g : List Value → List Value → List Value} {gV : List V → List V → List V} (Fn : Fun K "sure" "sure" s_sure f fd) (X : Txt mg)
    (F1 : FnOk P w K mg base CX0 5 f1 fd1 ["plan", "told", "most", "slips"] (sp_could K T)) (k1 : PySem.W.keepIn K (.ref f1) = true) (b1 : KBn K fd1 ["plan", "told", "most", "slips"] 3 ["slips"] g gV) (hg : ∀ vs zs, gV vs zs = vs ++ zs) (m1 : mg "could" = some (.ref f1))
    (F2 : FnOk P w K mg base CX0 1 f2 fd2 ["thing", "lots"] (sp_how_many_have K T)) (k2 : PySem.W.keepIn K (.ref f2) = true) (b2 : Binds K fd2 ["thing", "lots"] []) (m2 : mg "how_many_have" = some (.ref f2)) :
    FnOk P w K mg base CX0 6 f fd ["plan", "told", "most", "slips"] (sp_sure K T) := by
  refine ok_defD Fn sc_sure (fun ds ⟨_, _, _, _, _, e, _⟩ => by rw [e]; rfl) fun cdv A outer s H E' hr => ?_
  have hr1 : Room 1 (A.deeper (envOfC "sure" (defScope s_sure) s.heap.objs.size f cdv)) := hr.mono (by decide)
  refine ⟨_, (pss_cons (ps_set (i := 6) sc_sure.nd rfl (by first | exact Or.inl rfl | exact Or.inr rfl) (pe_lc (g := gTup K 2 (gCons (gName 4) (gCons (gName 5) gNil))) (own := [("lot", 4), ("_", 5)]) rfl sc_sure.nd (pi_list (pe_callN F1 hr (by rfl) m1 k1 b1 pass0 (pa_cons (pv 0) (pa_cons (pv 1) (pa_cons (pv 2) pa_nil))) (pk_cons (pv 3) pk_nil))) (blkOk_by (N := ["plan", "told", "most", "slips", "lot", "_", "lots", "thing", "having", "count", "in_all", "in_none"]) (sc := defScope s_sure) (by decide +kernel)) (fun _ _ _ _ _ => (pg_tup rfl (pgs_cons (pg_name (i := 4) sc_sure.nd rfl (by first | exact Or.inl rfl | exact Or.inr rfl)) (pgs_cons (pg_name (i := 5) sc_sure.nd rfl (by first | exact Or.inl rfl | exact Or.inr rfl)) pgs_nil)))) (fun _ _ _ _ _ => pts_nil) (fun _ _ _ _ _ => (pv 4))))
  (pss_cons (ps_if (pt_not (pt_truth (pv 6) (by intro _; rfl))) (pss_one (ps_ret pe_non)) pss_nil)
  (pss_cons (ps_setLc (i := 8) (own := [("thing", 7)]) rfl sc_sure.nd rfl rfl (sw_true rfl rfl rfl (by decide +kernel)) (pi_range1 rfl X.range (pa_cons (pe_ix (r := rIxT K) ix_tup (pv 0) pe_int (fun _ _ => rfl)) pa_nil)) (blkOk_by (N := ["plan", "told", "most", "slips", "lot", "_", "lots", "thing", "having", "count", "in_all", "in_none"]) (sc := defScope s_sure) (by decide +kernel)) (fun _ _ _ _ _ => (pg_name (i := 7) sc_sure.nd rfl (by first | exact Or.inl rfl | exact Or.inr rfl))) (fun _ _ _ _ _ => pts_nil) (fun _ _ _ _ _ => (pe_call F2 hr1 (by rfl) m2 k2 b2 .nil pass0 (pa_cons (pv 7) (pa_cons (pv 6) pa_nil)))))
  (pss_cons (ps_setLc (i := 10) (g := gTup K 2 (gCons (gName 7) (gCons (gName 9) gNil))) (own := [("thing", 7), ("count", 9)]) rfl sc_sure.nd rfl rfl (sw_true rfl rfl rfl (by decide +kernel)) (pi_enum (by rfl) X.enumerate (pa_cons (pv 8) pa_nil)) (blkOk_by (N := ["plan", "told", "most", "slips", "lot", "_", "lots", "thing", "having", "count", "in_all", "in_none"]) (sc := defScope s_sure) (by decide +kernel)) (fun _ _ _ _ _ => (pg_tup rfl (pgs_cons (pg_name (i := 7) sc_sure.nd rfl (by first | exact Or.inl rfl | exact Or.inr rfl)) (pgs_cons (pg_name (i := 9) sc_sure.nd rfl (by first | exact Or.inl rfl | exact Or.inr rfl)) pgs_nil)))) (fun _ _ _ _ _ => (pts_one (pt_cmpR op_eq (pv 9) (pe_callB (r := rLenQ K) call_len_seq (by rfl) X.len bt_len (pa_cons (pv 6) pa_nil)) (nomark _)))) (fun _ _ _ _ _ => (pv 7)))
  (pss_cons (ps_setLc (i := 11) (g := gTup K 2 (gCons (gName 7) (gCons (gName 9) gNil))) (own := [("thing", 7), ("count", 9)]) rfl sc_sure.nd rfl rfl (sw_true rfl rfl rfl (by decide +kernel)) (pi_enum (by rfl) X.enumerate (pa_cons (pv 8) pa_nil)) (blkOk_by (N := ["plan", "told", "most", "slips", "lot", "_", "lots", "thing", "having", "count", "in_all", "in_none"]) (sc := defScope s_sure) (by decide +kernel)) (fun _ _ _ _ _ => (pg_tup rfl (pgs_cons (pg_name (i := 7) sc_sure.nd rfl (by first | exact Or.inl rfl | exact Or.inr rfl)) (pgs_cons (pg_name (i := 9) sc_sure.nd rfl (by first | exact Or.inl rfl | exact Or.inr rfl)) pgs_nil)))) (fun _ _ _ _ _ => (pts_one (pt_cmpR op_eq (pv 9) pe_int (nomark _)))) (fun _ _ _ _ _ => (pv 7)))
  (pss_one (ps_ret (pe_tup (pa_cons (pv 10) (pa_cons (pv 11) pa_nil)))))))))), ?_⟩
  rintro ds ⟨n, ps, ts, m, sl, rfl, h⟩
  have hL := h.len
  have hC : (lotsC n ps ts m sl).length < 1000 := Nat.lt_of_le_of_lt (List.length_filter_le ..) hL
  have hF : FlatLs (lotsC n ps ts m sl) := ⟨by omega, fun l hl => h.lot (List.mem_filter.mp hl).1⟩
  have hn10 := h.g.n10
  have ec : (couldL n ps ts m sl).map fstD = lotsC n ps ts m sl := by
    unfold couldL
    rw [List.map_map]
    show List.map (fun l => l) _ = _
    rw [List.map_id']
    rfl
  have hcl : (couldL n ps ts m sl).length = (lotsC n ps ts m sl).length := by rw [← ec, List.length_map]
  refine s_seq (s_asg (d := .list (lotsC n ps ts m sl)) (E.is (EL.is (el_lcM (vs := [4, 5]) fstD (i_list (EL.is (el_callND (F := F_could) (ds := [.tuple [.int n, .tuple ps], .tuple ts, .int m]) (es := [.int sl]) (a_cons e_var (a_cons e_var (a_cons e_var a_nil))) (a_cons e_var a_nil) rfl rfl hg ⟨n, ps, ts, m, sl, rfl, h⟩))) (fun d hd => ?_) (by show (couldL n ps ts m sl).length ≤ _; omega))) (congrArg PyData.list ec)) ?_)
  · obtain ⟨l, hl, rfl⟩ := List.mem_map.mp (show d ∈ couldL n ps ts m sl from hd)
    exact ⟨_, tg_pair (by decide) (by decide), e_var⟩
  refine s_seq (s_if (t_not (t_testL e_var)) (fun he => s_ret e_non ?_) (fun he => s_next ?_))
  · have he : (lotsC n ps ts m sl).isEmpty = true := by simpa using he
    show PyData.none = sureD n ps ts m sl
    unfold sureD
    rw [if_pos he]
  have he : (lotsC n ps ts m sl).isEmpty = false := by simpa using he
  refine s_seq (s_asg (d := .list ((rng n).map fun d => .int (haveN d (lotsC n ps ts m sl)))) (EL.is (el_lcM (vs := [7]) (fun d => .int (haveN d (lotsC n ps ts m sl))) (i_rngN (n := n) (a_cons (e_ixT (i := 0) e_var e_int rfl) a_nil) (by omega)) (fun d hd => ⟨_, tg_name (by decide), ?_⟩) (by rw [rng_length]; omega))) ?_)
  · obtain ⟨i, hi, rfl⟩ := mem_rng hd
    exact E.is (e_callD (F := F_how_many_have) (ds := [.int i, .list (lotsC n ps ts m sl)]) (a_cons e_var (a_cons e_var a_nil)) ⟨i, _, rfl, hF⟩) rfl
  refine s_seq (s_asg (d := .list (inAll n (lotsC n ps ts m sl))) (E.is (EL.is (el_lcD (vs := [7, 9]) (sndI (lotsC n ps ts m sl).length) fstD (i_enumD (a_cons e_var a_nil)) (fun d hd => ?_) (by rw [enumD_length, List.length_map, rng_length]; omega))) (congrArg PyData.list (pick_rng _ _))) ?_)
  · rw [enum_rng] at hd
    obtain ⟨l, hl, rfl⟩ := List.mem_map.mp hd
    exact ⟨_, tg_pair (by decide) (by decide), ET.is (t_B (e_eq (d := .int (haveN l (lotsC n ps ts m sl))) (e := .int (lotsC n ps ts m sl).length) e_var (e_len (ds := lotsC n ps ts m sl) (a_cons e_var a_nil) (.inl rfl)) rfl)) rfl, fun _ => e_var⟩
  refine s_seq (s_asg (d := .list (inNone n (lotsC n ps ts m sl))) (E.is (EL.is (el_lcD (vs := [7, 9]) (sndI ((0 : Nat) : Int)) fstD (i_enumD (a_cons e_var a_nil)) (fun d hd => ?_) (by rw [enumD_length, List.length_map, rng_length]; omega))) (congrArg PyData.list (pick_rng 0 _))) ?_)
  · rw [enum_rng] at hd
    obtain ⟨l, hl, rfl⟩ := List.mem_map.mp hd
    exact ⟨_, tg_pair (by decide) (by decide), ET.is (t_B (e_eq (d := .int (haveN l (lotsC n ps ts m sl))) (e := .int 0) e_var e_int rfl)) rfl, fun _ => e_var⟩
  refine s_ret (e_tup (ds := [.list (inAll n (lotsC n ps ts m sl)), .list (inNone n (lotsC n ps ts m sl))]) (a_cons e_var (a_cons e_var a_nil)) (by show 2 ≤ 100000; decide)) ?_
  show _ = sureD n ps ts m sl
  unfold sureD
  rw [if_neg (by rw [he]; decide)]
end
end K17

namespace K17
open PySem PySem.Spec L2 Dv DvC DvT
open PyProof.Rows hiding St
section
variable {P : Program} {w : World} {K : PySem.W.Frag} {mg : Str → Option Value} {base : Heap} {T : List (Addr × Str)}
/-! the drawing row -/
theorem sql_upd {H : Hp} {sc a : Addr} {ns : List Int} {v : V} {r : List V} {o : HO} (h : SqL K H sc (ns.map V.int)) (ha : H a = some (.lst (.ref v0 :: r))) : SqL K (upd H a o) sc (ns.map V.int) := by
  rcases h with (h | ⟨o', h⟩) | h
  · have n : sc ≠ a := fun z => by
      rw [z, ha] at h
      cases ns <;> cases h
    exact .inl (.inl (by rw [upd_ne n]; exact h))
  · have n : sc ≠ a := fun z => by
      rw [z, ha] at h
      cases h
    exact .inl (.inr ⟨o', by rw [upd_ne n]; exact h⟩)
  · exact .inr h
theorem rd_row {σ : L2.St} {H : Hp} {a : Addr} {xs : List V} {k : Int} {v : V} {Q : VK} (h0 : σ[0]? = some (some (.ref a))) (ha : H a = some (.lst xs)) (hk : atI xs k = some v) (q : Q v H) : tOp (rIxL K) (tVar 0) (tC (.int k)) σ H Q := ⟨.ref a, h0, a, xs, k, v, rfl, rfl, SqL.of ha, hk, q⟩
theorem sc__law_taken : FnScope ["_law_row_here", "_law_many", "_law_found", "_law_cell"] ["_law_row_here", "_law_many"] (defScope s__law_taken) := ⟨rfl, rfl, rfl, by decide +kernel, rfl, by decide +kernel, by decide +kernel⟩
abbrev sp_taken (K : PySem.W.Frag) (T : List (Addr × Str)) : Sp := spA K T (fun os => ∃ n : Int, os = [.row, .dat (.int n)] ∧ 0 < n ∧ n ≤ 1000) (fun os d => ∀ n : Int, os = [.row, .dat (.int n)] → ∃ k : Nat, (k : Int) < n ∧ d = .int k)
theorem tk_of {i n : Int} (h : 0 < n) : ∃ k : Nat, (k : Int) < n ∧ PyData.int (i % n) = .int k := by
  have h1 := Int.emod_nonneg i (show n ≠ 0 by omega)
  have h2 := Int.emod_lt_of_pos i h
  exact ⟨(i % n).toNat, by omega, by congr 1; omega⟩
theorem ok_taken {f : Addr} {fd : FuncData} (Fn : Fun K "_law_taken" "_law_taken" s__law_taken f fd) (X : Txt mg) : FnOk P w K mg base CX0 1 f fd ["_law_row_here", "_law_many"] (sp_taken K T) := by
  refine ok_def Fn sc__law_taken (fun os ⟨_, e, _⟩ => by rw [e]; rfl) fun cdv A outer s H E' hr => ?_
  refine ⟨_, (pss_cons (ps_if (pt_cmpR op_gt (pe_ix (r := rIxL K) ix_list (pv 0) pe_int (fun _ _ => rfl)) pe_int (nomark _)) (pss_cons (ps_set (i := 2) sc__law_taken.nd rfl (by first | exact Or.inl rfl | exact Or.inr rfl) (pe_op op_mod (pe_ix (r := rIxL K) ix_list (pv 0) pe_int (fun _ _ => rfl)) (pv 1)))
  (pss_cons (ps_asg (pe_op op_fdiv (pe_ix (r := rIxL K) ix_list (pv 0) pe_int (fun _ _ => rfl)) (pv 1)) (pg_sub (pv 0) pe_int set_list))
  (pss_one (ps_ret (pv 2))))) pss_nil)
  (pss_cons (ps_if (pt_cmpR op_lt (pe_ix (r := rIxL K) ix_list (pv 0) pe_int (fun _ _ => rfl)) (pe_callB (r := rLenQ K) call_len_seq (by rfl) X.len bt_len (pa_cons (pe_ix (r := rIxL K) ix_list (pv 0) pe_int (fun _ _ => rfl)) pa_nil)) (nomark _)) (pss_cons (ps_set (i := 3) sc__law_taken.nd rfl (by first | exact Or.inl rfl | exact Or.inr rfl) (pe_ix (r := rIxL K) ix_list (pe_ix (r := rIxL K) ix_list (pv 0) pe_int (fun _ _ => rfl)) (pe_ix (r := rIxL K) ix_list (pv 0) pe_int (fun _ _ => rfl)) (fun _ _ => rfl)))
  (pss_cons (ps_asg (pe_op op_add (pe_ix (r := rIxL K) ix_list (pv 0) pe_int (fun _ _ => rfl)) pe_int) (pg_sub (pv 0) pe_int set_list))
  (pss_cons (ps_if (pt_cmpR op_ge (pv 3) (pe_op op_pow pe_int pe_int) (nomark _)) (pss_one (ps_asg (pe_op op_fdiv (pv 3) (pv 1)) (pg_sub (pv 0) pe_int set_list))) pss_nil)
  (pss_one (ps_ret (pe_op op_mod (pv 3) (pv 1))))))) pss_nil)
  (pss_cons (ps_asg (pe_op op_mod (pe_op op_add (pe_op op_mul (pe_ix (r := rIxL K) ix_list (pv 0) pe_int (fun _ _ => rfl)) pe_int) pe_int) pe_int) (pg_sub (pv 0) pe_int set_list))
  (pss_one (ps_ret (pe_op op_mod (pe_op op_fdiv (pe_ix (r := rIxL K) ix_list (pv 0) pe_int (fun _ _ => rfl)) pe_int) (pv 1))))))), ?_⟩
  rintro os ⟨n, rfl, hn0, hn⟩ W D' σ H s j ok
  obtain ⟨v0, h0, o0⟩ := s.at_ 0 _ rfl
  obtain ⟨v1, h1, o1⟩ := s.at_ 1 _ rfl
  cases o0 with
  | row hr0 =>
  cases o1 with
  | dat o1 =>
  cases o1
  rename_i a
  obtain ⟨sc, ns, i, c, m, ha, hsc, hi, hm0, hm1⟩ := W.row j hr0
  have hl : σ.length = 4 := s.len.symm
  have xa := W.rx hr0
  have fin : ∀ (H' : Hp) (z : Int), Ex W H H' → W.J H' → D'.rt (.int (z % n)) H' := fun H' z e j' => by
    refine ok.rt _ (.int (z % n)) H' e j' (.int _) fun n' e' => ?_
    have : n' = n := by injection e' with _ e'; injection e' with e' _; injection e' with e'; injection e' with e'; exact e'.symm
    subst this
    exact tk_of hn0
  refine rd_row (K := K) h0 ha rfl ⟨c, 0, rfl, rfl, _, rfl, ite2 (fun hc => ?_) (fun hc => ?_)⟩
  · refine rd_row (K := K) h0 ha rfl ⟨.int n, h1, c, n, rfl, rfl, hn0, ?_⟩
    have h0' : (σ.set 2 (some (.int (c % n))))[0]? = some (some (.ref a)) := by rw [List.getElem?_set_ne (by decide)]; exact h0
    have h1' : (σ.set 2 (some (.int (c % n))))[1]? = some (some (.int n)) := by rw [List.getElem?_set_ne (by decide)]; exact h1
    refine rd_row (K := K) h0' ha rfl ⟨.int n, h1', c, n, rfl, rfl, ⟨hn0, by omega⟩, .ref a, h0', a, _, 2, 2, rfl, rfl, ha, rfl, ?_⟩
    refine ⟨.int (c % n), by rw [List.getElem?_set_self (by omega)], fin _ c (Ex.out (.refl H) xa) (W.jw j hr0 ha hi hm0 hm1)⟩
  · refine rd_row (K := K) h0 ha rfl ?_
    refine rd_row (K := K) h0 ha rfl ⟨sc, ns.map V.int, rfl, .inl hsc, i, _, rfl, rfl, _, rfl, ite2 (fun hc2 => ?_) (fun hc2 => ?_)⟩
    · have hlt : i < ((ns.map V.int).length : Int) := of_decide_eq_true hc2
      rw [List.length_map] at hlt
      obtain ⟨cell, hat⟩ : ∃ cell, atI (ns.map V.int) i = some (.int cell) := by
        obtain ⟨k, rfl⟩ : ∃ k : Nat, i = k := ⟨i.toNat, by omega⟩
        exact ⟨ns[k]'(by omega), atI_nat (by rw [List.getElem?_map, List.getElem?_eq_getElem (by omega)]; rfl)⟩
      refine rd_row (K := K) h0 ha rfl ?_
      refine rd_row (K := K) h0 ha rfl ⟨sc, _, i, _, rfl, rfl, hsc, hat, ?_⟩
      have h0' : (σ.set 3 (some (.int cell)))[0]? = some (some (.ref a)) := by rw [List.getElem?_set_ne (by decide)]; exact h0
      have h1' : (σ.set 3 (some (.int cell)))[1]? = some (some (.int n)) := by rw [List.getElem?_set_ne (by decide)]; exact h1
      have h3' : (σ.set 3 (some (.int cell)))[3]? = some (some (.int cell)) := by rw [List.getElem?_set_self (by omega)]
      refine rd_row (K := K) h0' ha rfl ⟨i, 1, rfl, rfl, .ref a, h0', a, _, 1, 1, rfl, rfl, ha, rfl, ?_⟩
      refine ⟨.int cell, h3', 10, 18, rfl, rfl, ⟨by decide, by decide, by decide⟩, cell, _, rfl, rfl, _, rfl, ite2 (fun hc3 => ?_) (fun hc3 => ?_)⟩
      · refine ⟨.int cell, h3', .int n, h1', cell, n, rfl, rfl, ⟨hn0, by omega⟩, .ref a, h0', a, _, 2, 2, rfl, rfl, upd_same, rfl, ?_⟩
        refine ⟨.int cell, h3', .int n, h1', cell, n, rfl, rfl, hn0, fin _ cell (Ex.out (Ex.out (.refl H) xa) xa) ?_⟩
        rw [upd_upd]
        exact W.jw j hr0 ha (by omega) hm0 hm1
      · refine ⟨.int cell, h3', .int n, h1', cell, n, rfl, rfl, hn0, fin _ cell (Ex.out (.refl H) xa) ?_⟩
        exact W.jw j hr0 ha (by omega) hm0 hm1
    · refine rd_row (K := K) h0 ha rfl ⟨m, 48271, rfl, rfl, .inl ⟨by omega, by omega⟩, _, 12345, rfl, rfl, _, 2147483647, rfl, rfl, (show (0 : Int) < 2147483647 by decide), .ref a, h0, a, _, 3, 3, rfl, rfl, ha, rfl, ?_⟩
      refine rd_row (K := K) h0 upd_same rfl ⟨_, 1009, rfl, rfl, ⟨by decide, by decide⟩, .int n, h1, _, n, rfl, rfl, hn0, fin _ _ (Ex.out (.refl H) xa) ?_⟩
      exact W.jw j hr0 ha hi (Int.emod_nonneg _ (by decide)) (Int.emod_lt_of_pos _ (by decide))
theorem sc__law_row : FnScope ["_law_script", "_law_mixed", "_law_cell"] ["_law_script"] (defScope s__law_row) := ⟨rfl, rfl, rfl, by decide +kernel, rfl, by decide +kernel, by decide +kernel⟩
/-- the row's making: before there is a world -/
def sp_row (K : PySem.W.Frag) : Sp := fun vs H Q _ => ∃ (a : Addr) (ns : List Int), vs = [.ref a] ∧ SqL K H a (ns.map V.int) ∧ ∀ (p : Addr) (m : Int), H p = none → 0 ≤ m → m < 2147483647 → Q (.ref p) (upd H p (.lst [.ref a, .int 0, .int 0, .int m]))
theorem ok_row {f : Addr} {fd : FuncData} (Fn : Fun K "_law_row" "_law_row" s__law_row f fd) : FnOk P w K mg base CX0 1 f fd ["_law_script"] (sp_row K) := by
  refine Fn.ok sc__law_row (fun vs H Q E ⟨a, ns, e, _⟩ => by rw [e]; rfl) fun cdv A outer s H vs Q E hr ⟨a, ns, e, hsc, q⟩ => ?_
  subst e
  refine ⟨_, (pss_cons (ps_set (i := 1) sc__law_row.nd rfl (by first | exact Or.inl rfl | exact Or.inr rfl) pe_int)
  (pss_cons (ps_for PassesOwn.never rfl (pi_list (pv 0)) (pg_name (i := 2) sc__law_row.nd rfl (by first | exact Or.inl rfl | exact Or.inr rfl)) (pss_one (ps_set (i := 1) sc__law_row.nd rfl (by first | exact Or.inl rfl | exact Or.inr rfl) (pe_op op_mod (pe_op op_add (pe_op op_add (pe_op op_mul (pv 1) pe_int) (pv 2)) pe_int) pe_int))))
  (pss_one (ps_ret (pe_lst (pa_cons (pv 0) (pa_cons pe_int (pa_cons pe_int (pa_cons (pv 1) pa_nil))))))))), ?_⟩
  refine ⟨.ref a, rfl, a, rfl, ⟨_, hsc⟩, ?_⟩
  refine for_it (walk_list (K := K) (a := a) (xs := ns.map V.int)) (fun i σ' H' => H' = H ∧ ∃ m y, σ' = [some (.ref a), some (.int m), y] ∧ 0 ≤ m ∧ m < 2147483647) ⟨rfl, 7, none, rfl, by decide, by decide⟩ (fun i σ' H' _ ⟨e, _⟩ => by rw [e]; exact hsc) (fun i x σ' H' H2 hin ⟨e, m, y, e2, h0, h1⟩ yv => ?_) fun σ' H' ⟨e, m, y, e2, h0, h1⟩ => ?_
  · subst e e2
    obtain ⟨rfl, hx⟩ := yv
    obtain ⟨k, rfl⟩ : ∃ k, x = .int k := by
      rw [List.getElem?_map] at hx
      cases hk : ns[i]? with
      | none => rw [hk] at hx; cases hx
      | some k => rw [hk] at hx; cases hx; exact ⟨k, rfl⟩
    refine ⟨.int m, rfl, m, 48271, rfl, rfl, .inl ⟨by omega, by omega⟩, .int k, rfl, _, k, rfl, rfl, _, 11, rfl, rfl, _, 2147483647, rfl, rfl, (show (0 : Int) < 2147483647 by decide), rfl, _, some (.int k), rfl, Int.emod_nonneg _ (by decide), Int.emod_lt_of_pos _ (by decide)⟩
  · subst e e2
    exact ⟨.ref a, rfl, .int m, rfl, (by show 4 ≤ sizeLine; decide), fun p hp => q p m hp h0 h1⟩
/-! more rules -/
theorem rd_of {r : R2} {P Q R : PyData → Prop} (h : ∀ (G : Dv.Ctx) (ta tb : TE), E K T ta G P → E K T tb G Q → E K T (tOp r ta tb) G R) : RD K T r P Q R := fun W H x y d e jh dx dy px py Q' q => by
  have e1 : E K T (fun σ H Q => Q x H) [] P → True := fun _ => trivial
  have s : Sl W H [some x, some y] [some (.dat d), some (.dat e)] := ⟨rfl, fun i o hi => by
    match i, hi with
    | 0, hi => cases hi; exact ⟨x, rfl, .dat dx⟩
    | 1, hi => cases hi; exact ⟨y, rfl, .dat dy⟩⟩
  have z := h [some (.dat d), some (.dat e)] (tVar 0) (tVar 1) ((e_var (i := 0)).imp fun _ w => by rw [w]; exact px) ((e_var (i := 1)).imp fun _ w => by rw [w]; exact py) W [some x, some y] H s jh Q' q
  obtain ⟨v, hv, u, hu, z⟩ := z
  cases hv
  cases hu
  exact z
theorem e_opP {G : Dv.Ctx} {ta tb : TE} {r : R2} {P Q R : PyData → Prop} (ha : E K T ta G P) (hb : E K T tb G Q) (hr : ∀ d e, P d → Q e → RD K T r (· = d) (· = e) R) : E K T (tOp r ta tb) G R := e_op ha hb fun W H x y d e jh dx dy px py Q' q => hr d e px py W H x y d e jh dx dy rfl rfl Q' q
/-- an operation, its rule told for known data -/
theorem e_opQ {G : Dv.Ctx} {ta tb : TE} {r : R2} {P Q R : PyData → Prop} (ha : E K T ta G P) (hb : E K T tb G Q) (hr : ∀ d e, P d → Q e → ∀ (G : Dv.Ctx) (ta tb : TE), E K T ta G (· = d) → E K T tb G (· = e) → E K T (tOp r ta tb) G R) : E K T (tOp r ta tb) G R :=
  e_opP ha hb fun d e p q => rd_of (hr d e p q)
theorem e_tupP {G : Dv.Ctx} {tr : TA} {R : List Ob → Prop} {P : PyData → Prop} (h : EA K T tr G R) (hk : ∀ os, R os → ∃ ds, os = dats ds ∧ ds.length ≤ 100000 ∧ P (.tuple ds)) : E K T (tTup tr) G P := fun W σ H s j Q q => h W σ H s j _ fun vs os H1 e1 j1 dv p => by
  obtain ⟨ds, rfl, hl, hp⟩ := hk os p
  have a := all_of dv
  exact ⟨Nat.le_trans (by rw [a.length]; exact hl) (by decide), fun x hx => q _ _ _ (e1.trans (.new hx)) (j_new j1 hx) (.tup (new_ne j1 hx) upd_same (a.mono (.new hx))) hp⟩
theorem e_tup1 {G : Dv.Ctx} {te : TE} {P : PyData → Prop} (h : E K T te G P) : E K T (tTup (tCons te tNil)) G (fun d => ∃ x, d = .tuple [x] ∧ P x) := e_tupP (a_consP h a_nil) fun os ⟨d, r, e, p, z⟩ => ⟨[d], by rw [e, z]; rfl, by show 1 ≤ 100000; decide, d, rfl, p⟩
theorem e_tupleLP {G : Dv.Ctx} {te : TE} {K' : PySem.W.Frag} {P : List PyData → Prop} (h : EL K T te G P) : E K T (tCB (rTupQ K') (tCons te tNil)) G (fun d => ∃ ds, d = .tuple ds ∧ P ds) := fun W σ H s j Q q => h W σ H s j _ fun p xs ds H1 f j1 n1 h1 al pd =>
  ⟨p, xs, rfl, .inl ⟨SqL.of h1, fun l hl => q (.ref l) (.tuple ds) _ (f.ex.trans (.new hl)) (j_new j1 hl) (.tup (new_ne j1 hl) upd_same (al.mono (.new hl))) ⟨ds, rfl, pd⟩⟩⟩
def tKI (n : Nat) : TA := fun _ H Q => Q [.int n] H
theorem a_ki {G : Dv.Ctx} {n : Nat} : EA K T (tKI n) G (· = [.dat (.int n)]) := fun W σ H s j Q q => q _ _ H (.refl H) j (.cons (.dat (.int _)) .nil) rfl
/-- a for over range(..), the count not told -/
theorem s_forR {G : Dv.Ctx} {F : EndG} {g : TG} {t : TS} {tr : TA} {B : Nat → Prop} (h : EA K T tr G (fun os => ∃ n : Nat, B n ∧ os = [.dat (.int n)])) (k : ∀ n, B n → S K T (tFor (iRng1 (tKI n)) g t) G F) : S K T (tFor (iRng1 tr) g t) G F := fun W D' σ H s j ok => h W σ H s j _ fun vs os H1 e1 j1 dv ⟨n, hn, e⟩ => by
  subst e
  have a := all_of (ds := [.int n]) dv
  cases a with
  | cons a b =>
    cases b
    cases a.int_inv
    exact k n hn W D' σ H1 (s.mono e1) j1 (ok.mono e1)
theorem e_taken {G : Dv.Ctx} {Ex' : XK} {tr : TA} {n : Int} (h : EA K T tr G (· = [.row, .dat (.int n)])) (h0 : 0 < n) (h1 : n ≤ 1000) : E K T (tCall (sp_taken K T) [] Ex' tr) G (fun d => ∃ k : Nat, (k : Int) < n ∧ d = .int k) := e_call h ⟨n, rfl, h0, h1⟩ fun d p => p n rfl
/-- a slice [:k] of a tuple -/
theorem e_slT {G : Dv.Ctx} {te : TE} {k : Nat} {P : List PyData → Prop} (h : E K T te G (fun d => ∃ ds, d = .tuple ds ∧ P ds)) (hk : ∀ ds, P ds → P (ds.take k)) : E K T (tSl (rSlA K) te tNoPart (tPart (tC (.int (k : Nat))))) G (fun d => ∃ ds, d = .tuple ds ∧ P ds) := fun W σ H s j Q q => h W σ H s j _ fun v d H1 e1 j1 dv ⟨ds, e, p⟩ => by
  subst e
  obtain ⟨a, xs, rfl, nx, ha, al⟩ := dv.tup_inv
  have hs : HT.sIx xs.length xs.length (some (k : Int)) = min k xs.length := HT.sIx_nat _ _ _
  refine ⟨k, rfl, a, xs, rfl, SqT.of ha, fun _ => q _ _ H1 e1 j1 dv ⟨ds, rfl, p⟩, fun _ x hx => ?_⟩
  have ec : cutV xs none (some (k : Int)) = xs.take k := by
    unfold cutV
    rw [hs, HT.sIx_none, List.drop_zero, Nat.sub_zero]
    rcases Nat.le_total k xs.length with z | z
    · rw [Nat.min_eq_left z]
    · rw [Nat.min_eq_right z, List.take_of_length_le (Nat.le_refl _), List.take_of_length_le z]
  rw [ec]
  exact q _ _ _ (e1.trans (.new hx)) (j_new j1 hx) (.tup (new_ne j1 hx) upd_same ((al.take k).mono (.new hx))) ⟨_, rfl, hk ds p⟩
/-! shaped data -/
def Sh (k : Nat) (d : PyData) : Prop := d.canLay0 = true ∧ d.depth ≤ k
theorem Sh.shaped {k : Nat} {d : PyData} (h : Sh k d) (hk : k ≤ 64) : SeqAt.shaped d = true := by
  unfold SeqAt.shaped
  rw [h.1, decide_eq_true (Nat.le_trans h.2 hk)]
  rfl
theorem Sh.refl {k : Nat} {d : PyData} (h : Sh k d) : PyData.eqv d d = true := SeqAt.eqv_refl d h.1
theorem Sh.mono {k j : Nat} {d : PyData} (h : Sh k d) (hk : k ≤ j) : Sh j d := ⟨h.1, Nat.le_trans h.2 hk⟩
theorem sh_int {i : Int} {k : Nat} : Sh k (.int i) := ⟨rfl, by show 0 ≤ k; omega⟩
theorem sh_non {k : Nat} : Sh k .none := ⟨rfl, by show 0 ≤ k; omega⟩
theorem sh_bool {b : Bool} {k : Nat} : Sh k (.bool b) := ⟨rfl, by show 0 ≤ k; omega⟩
theorem sh_all {k : Nat} : ∀ {xs : List PyData}, (∀ x ∈ xs, Sh k x) → PyData.canLayAll0 xs = true ∧ PyData.depthAll xs ≤ k
  | [], _ => ⟨rfl, by show 0 ≤ k; omega⟩
  | x :: r, h => by
    obtain ⟨a, b⟩ := sh_all (xs := r) fun y hy => h y (List.mem_cons_of_mem _ hy)
    obtain ⟨c, d⟩ := h x (List.mem_cons_self ..)
    exact ⟨by show (x.canLay0 && PyData.canLayAll0 r) = true; rw [a, c]; rfl, by show max x.depth (PyData.depthAll r) ≤ k; omega⟩
theorem sh_tup {k : Nat} {xs : List PyData} (h : ∀ x ∈ xs, Sh k x) : Sh (k + 1) (.tuple xs) := ⟨(sh_all h).1, by show PyData.depthAll xs + 1 ≤ k + 1; have := (sh_all h).2; omega⟩
theorem sh_lst {k : Nat} {xs : List PyData} (h : ∀ x ∈ xs, Sh k x) : Sh (k + 1) (.list xs) := ⟨(sh_all h).1, by show PyData.depthAll xs + 1 ≤ k + 1; have := (sh_all h).2; omega⟩
def IntsD (xs : List PyData) : Prop := ∀ d ∈ xs, IntD d
theorem IntsD.sh {xs : List PyData} (h : IntsD xs) : ∀ d ∈ xs, Sh 0 d := fun d hd => by
  obtain ⟨i, rfl⟩ := h d hd
  exact sh_int
theorem IntsD.flat {xs : List PyData} (h : IntsD xs) : xs.all flatD = true := List.all_eq_true.mpr fun d hd => by
  obtain ⟨i, rfl⟩ := h d hd
  rfl
theorem intsD_map (js : List Nat) : IntsD (js.map fun (j : Nat) => PyData.int j) := fun d hd => by
  obtain ⟨j, _, rfl⟩ := List.mem_map.mp hd
  exact ⟨j, rfl⟩
theorem eqv_nilT {xs : List PyData} : PyData.eqv (.tuple xs) (.tuple []) = xs.isEmpty := by cases xs <;> rfl
theorem eqv_nilL {xs : List PyData} : PyData.eqv (.list xs) (.list []) = xs.isEmpty := by cases xs <;> rfl
/-! drawn lots and plans -/
def GoodJ (n : Nat) (js : List Nat) : Prop := js.Pairwise (· < ·) ∧ ∀ j ∈ js, j < n
theorem lotGo_of {n : Nat} : ∀ {js : List Nat} {l : Nat}, GoodJ n js → (∀ j ∈ js, l ≤ j) → lotGo n l (js.map fun (j : Nat) => PyData.int j) = true
  | [], l, _, _ => rfl
  | j :: r, l, ⟨h1, h2⟩, h3 => by
    have a := h3 j (List.mem_cons_self ..)
    have b := h2 j (List.mem_cons_self ..)
    have hp := List.pairwise_cons.mp h1
    have ih := lotGo_of (n := n) (js := r) (l := j + 1) ⟨hp.2, fun x hx => h2 x (List.mem_cons_of_mem _ hx)⟩ fun x hx => hp.1 x hx
    show ((decide ((l : Int) ≤ j) && decide ((j : Int) ≤ n - 1)) && lotGo n ((j : Int) + 1) (r.map fun (j : Nat) => PyData.int j)) = true
    rw [decide_eq_true (show (l : Int) ≤ j by omega), decide_eq_true (show (j : Int) ≤ n - 1 by omega)]
    exact ih
theorem GoodJ.len {n : Nat} {js : List Nat} (h : GoodJ n js) : js.length ≤ n := by
  have z := (lotGo_ok (lotGo_of (l := 0) h fun _ _ => Nat.zero_le _)).2.1
  rw [List.length_map] at z
  omega
theorem sc__law_lot : FnScope ["_law_row_here", "_law_things", "_law_thing"] ["_law_row_here", "_law_things"] (defScope s__law_lot) := ⟨rfl, rfl, rfl, by decide +kernel, rfl, by decide +kernel, by decide +kernel⟩
abbrev sp_lot (K : PySem.W.Frag) (T : List (Addr × Str)) : Sp := spA K T (fun os => ∃ n : Nat, os = [.row, .dat (.int n)] ∧ n ≤ 1000) (fun os d => ∀ n : Nat, os = [.row, .dat (.int n)] → ∃ js, d = lotD js ∧ GoodJ n js)
theorem row_int_inj {i j : Int} (h : [Ob.row, Ob.dat (.int i)] = [.row, .dat (.int j)]) : i = j := by
  injection h with _ h
  injection h with h _
  injection h with h
  injection h
theorem ok_lot {f f1 : Addr} {fd fd1 : FuncData} (Fn : Fun K "_law_lot" "_law_lot" s__law_lot f fd) (X : Txt mg) (F1 : FnOk P w K mg base CX0 1 f1 fd1 ["_law_row_here", "_law_many"] (sp_taken K T)) (k1 : PySem.W.keepIn K (.ref f1) = true) (b1 : Binds K fd1 ["_law_row_here", "_law_many"] []) (m1 : mg "_law_taken" = some (.ref f1)) :
    FnOk P w K mg base CX0 2 f fd ["_law_row_here", "_law_things"] (sp_lot K T) := by
  refine ok_def Fn sc__law_lot (fun os ⟨_, e, _⟩ => by rw [e]; rfl) fun cdv A outer s H E' hr => ?_
  refine ⟨_, (pss_one (ps_ret (pe_callTy (r := rTupQ K) call_tuple_of (by rfl) X.tuple bt_tuple (pa_cons (pe_lc (own := [("_law_thing", 2)]) rfl sc__law_lot.nd (pi_range1 rfl X.range (pa_cons (pv 1) pa_nil)) (blkOk_by (N := ["_law_row_here", "_law_things", "_law_thing"]) (sc := defScope s__law_lot) (by decide +kernel)) (fun _ _ _ _ _ => (pg_name (i := 2) sc__law_lot.nd rfl (by first | exact Or.inl rfl | exact Or.inr rfl))) (fun _ _ _ _ _ => (pts_one (pt_cmpR op_lt (pe_call F1 hr (by rfl) m1 k1 b1 .nil pass0 (pa_cons (pv 0) (pa_cons pe_int pa_nil))) pe_int (nomark _)))) (fun _ _ _ _ _ => (pv 2))) pa_nil)))), ?_⟩
  rintro os ⟨n, rfl, hn⟩
  have comp := el_lc (K := K) (T := T) (G := [some .row, some (.dat (.int n)), none]) (vs := [2]) (wi := iRng1 (tCons (tVar 1) tNil)) (g := gName 2) (tt := tTest (tOp (rI0 fun i j => .bl (decide (i < j))) (tCall (sp_taken K T) [] E0 (tCons (tVar 0) (tCons (tC (.int 5)) tNil))) (tC (.int 2)))) (te := tVar 2)
    (fun i acc => ∃ js : List Nat, acc = js.map (fun (j : Nat) => PyData.int j) ∧ js.Pairwise (· < ·) ∧ ∀ j ∈ js, j < i) (i_rngN (n := n) (a_cons e_var a_nil) (by omega)) ⟨[], rfl, .nil, fun j hj => by cases hj⟩ (fun i d acc hi hd ⟨js, ea, h1, h2⟩ => ?_) (by rw [rng_length]; omega)
  · rw [rng_length] at comp
    refine s_retP (e_tupleLP comp) fun d ⟨ds, e1, js, e2, h1, h2⟩ n' en => ?_
    obtain rfl : n = n' := by have := row_int_inj en; omega
    exact ⟨js, by rw [e1, e2]; rfl, h1, h2⟩
  · rw [rng_length] at hi
    rw [rng_get hi] at hd
    cases hd
    refine ⟨_, tg_name (by decide), fun _ => True, t_any (e_opQ (e_taken (n := 5) (a_row (a_cons e_int a_nil)) (by decide) (by decide)) e_int fun d e ⟨k, _, ed⟩ ee G ta tb ha hb => (e_cmp (f := fun i j => decide (i < j)) (ha.is ed) (hb.is ee)).imp fun _ z => ⟨_, z⟩), fun _ => ⟨js, ea, h1, fun j hj => by have := h2 j hj; omega⟩, fun _ => ⟨_, e_var, fun y hy => ⟨js ++ [i], by rw [hy, ea, List.map_append]; rfl, ?_, ?_⟩⟩⟩
    · exact List.pairwise_append.mpr ⟨h1, List.pairwise_singleton _ _, fun a ha b hb => by rw [List.mem_singleton.mp hb]; exact h2 a ha⟩
    · intro j hj
      rcases List.mem_append.mp hj with hj | hj
      · have := h2 j hj; omega
      · rw [List.mem_singleton.mp hj]; omega
theorem sc__law_plan : FnScope ["_law_row_here", "_law_things", "_law_probes", "_law_many", "_law_found", "_law_k", "_law_lot_here"] ["_law_row_here", "_law_things", "_law_probes"] (defScope s__law_plan) := ⟨rfl, rfl, rfl, by decide +kernel, rfl, by decide +kernel, by decide +kernel⟩
abbrev sp_plan (K : PySem.W.Frag) (T : List (Addr × Str)) : Sp := spA K T (fun os => ∃ t q : Nat, os = [.row, .dat (.int t), .dat (.int q)] ∧ 1 ≤ t ∧ t ≤ 10 ∧ q ≤ 16) (fun os d => ∀ t q : Nat, os = [.row, .dat (.int t), .dat (.int q)] → ∃ n ps, d = .tuple [.int (n : Nat), .tuple ps] ∧ GoodP n ps ∧ n ≤ t ∧ ps.length ≤ q)
theorem probe_of {n : Nat} {js : List Nat} (h : GoodJ n js) (h0 : js ≠ []) : isProbeD n (lotD js) = true := by
  show (lotGo n 0 (js.map fun (j : Nat) => PyData.int j) && decide ((0 : Int) < ((js.map fun (j : Nat) => PyData.int j).length : Nat))) = true
  rw [show lotGo n 0 (js.map fun (j : Nat) => PyData.int j) = true from lotGo_of (l := 0) h fun _ _ => Nat.zero_le _, List.length_map]
  have : 0 < js.length := List.length_pos_iff.mpr h0
  exact decide_eq_true (by omega)
theorem ok_plan {f f1 f2 : Addr} {fd fd1 fd2 : FuncData} (Fn : Fun K "_law_plan" "_law_plan" s__law_plan f fd) (X : Txt mg) (F1 : FnOk P w K mg base CX0 1 f1 fd1 ["_law_row_here", "_law_many"] (sp_taken K T)) (k1 : PySem.W.keepIn K (.ref f1) = true) (b1 : Binds K fd1 ["_law_row_here", "_law_many"] []) (m1 : mg "_law_taken" = some (.ref f1))
    (F2 : FnOk P w K mg base CX0 2 f2 fd2 ["_law_row_here", "_law_things"] (sp_lot K T)) (k2 : PySem.W.keepIn K (.ref f2) = true) (b2 : Binds K fd2 ["_law_row_here", "_law_things"] []) (m2 : mg "_law_lot" = some (.ref f2)) :
    FnOk P w K mg base CX0 3 f fd ["_law_row_here", "_law_things", "_law_probes"] (sp_plan K T) := by
  refine ok_def Fn sc__law_plan (fun os ⟨_, _, e, _⟩ => by rw [e]; rfl) fun cdv A outer s H E' hr => ?_
  have hr1 : Room 1 (A.deeper (envOfC "_law_plan" (defScope s__law_plan) s.heap.objs.size f cdv)) := hr.mono (by decide)
  refine ⟨_, (pss_cons (ps_par (i := 3) (j := 4) (by rfl) sc__law_plan.nd rfl rfl (by decide) rfl rfl (pa_cons (pe_op op_add pe_int (pe_call F1 hr1 (by rfl) m1 k1 b1 .nil pass0 (pa_cons (pv 0) (pa_cons (pv 1) pa_nil)))) (pa_cons (pe_tup pa_nil) pa_nil)) (by rfl))
  (pss_cons (ps_for PassesOwn.never rfl (pi_range1 rfl X.range (pa_cons (pe_call F1 hr1 (by rfl) m1 k1 b1 .nil pass0 (pa_cons (pv 0) (pa_cons (pe_op op_add (pv 2) pe_int) pa_nil))) pa_nil)) (pg_name (i := 5) sc__law_plan.nd rfl (by first | exact Or.inl rfl | exact Or.inr rfl)) (pss_cons (ps_set (i := 6) sc__law_plan.nd rfl (by first | exact Or.inl rfl | exact Or.inr rfl) (pe_call F2 hr (by rfl) m2 k2 b2 .nil pass0 (pa_cons (pv 0) (pa_cons (pv 3) pa_nil))))
  (pss_one (ps_set (i := 4) sc__law_plan.nd rfl (by first | exact Or.inl rfl | exact Or.inr rfl) (pe_op (r := rCatA K) op_catA (pv 4) (pe_tup (pa_cons (pe_ifExp (pt_cmpR (r := rNeD K) (op_neD hr.units) (pv 6) (pe_tup pa_nil) (nomark _)) (pv 6) (pe_tup (pa_cons (pe_call F1 hr1 (by rfl) m1 k1 b1 .nil pass0 (pa_cons (pv 0) (pa_cons (pv 3) pa_nil))) pa_nil))) pa_nil)))))))
  (pss_one (ps_ret (pe_tup (pa_cons (pv 3) (pa_cons (pv 4) pa_nil))))))), ?_⟩
  rintro os ⟨t, q, rfl, ht1, ht, hq⟩
  refine s_seq (s_parP (R := fun os => ∃ k : Nat, k < t ∧ os = [.dat (.int (1 + (k : Int))), .dat (.tuple [])]) ((a_consP (e_opQ (R := fun d => ∃ k : Nat, k < t ∧ d = .int (1 + (k : Int))) e_int (e_taken (n := t) (a_row (a_cons e_var a_nil)) (by omega) (by omega)) fun d e ed ⟨k, hk, ee⟩ G ta tb ha hb => (e_add (ha.is ed) (hb.is ee)).imp fun _ z => ⟨k, by omega, z⟩) (a_cons (e_tup (ds := []) a_nil (by show 0 ≤ 100000; decide)) a_nil)).imp fun os ⟨d, r, e, ⟨k, hk, ed⟩, er⟩ => ⟨k, hk, by rw [e, ed, er]⟩) fun os ⟨k, hk, e⟩ => ⟨_, _, e, ?_⟩)
  obtain ⟨n, hn1, hn⟩ : ∃ n : Nat, 1 ≤ n ∧ (n ≤ t ∧ (1 + (k : Int)) = (n : Int)) := ⟨1 + k, by omega, by omega, by omega⟩
  rw [hn.2]
  refine s_seq (s_forR (B := fun m => m ≤ q) ((a_consP (e_taken (n := (q : Int) + 1) (a_row (a_cons (e_add e_var e_int) a_nil)) (by omega) (by omega)) a_nil).imp fun os ⟨d, r, e, ⟨k, hk, ed⟩, er⟩ => ⟨k, by omega, by rw [e, ed, er]⟩) fun m hm => ?_)
  refine s_for (vs := [5]) (fun i G' => ∃ ps x y, G' = [some .row, some (.dat (.int t)), some (.dat (.int q)), some (.dat (.int n)), some (.dat (.tuple ps)), x, y] ∧ ps.length ≤ i ∧ ∀ p ∈ ps, isProbeD n p = true) (i_rngN a_ki (by omega)) ⟨[], none, none, rfl, Nat.le_refl _, fun p hp => by cases hp⟩ ?_ ?_
  · rintro i d G' hi hd ⟨ps, x, y, rfl, hl, hp⟩
    rw [rng_length] at hi
    refine ⟨_, tg_name (by decide), ?_⟩
    refine s_seq (s_asgP (e_call (P := fun d => ∃ js, d = lotD js ∧ GoodJ n js) (a_row (a_cons e_var a_nil)) ⟨n, rfl, by omega⟩ fun d p => p n rfl) fun l ⟨js, el, hj⟩ => ?_)
    subst el
    refine s_asgP (e_opQ (P := (· = .tuple ps)) (R := fun d => ∃ p, d = .tuple (ps ++ [p]) ∧ isProbeD n p = true) e_var (e_tup1 (P := fun p => isProbeD n p = true) (e_if (b := !PyData.eqv (lotD js) (.tuple [])) (t_B (e_neD e_var (e_tup (ds := []) a_nil (by show 0 ≤ 100000; decide)) ((sh_tup (k := 0) (intsD_map js).sh).shaped (by decide)) rfl)) (fun h => ?_) (fun h => ?_))) fun d e ed ⟨p, ee, hp'⟩ G ta tb ha hb => (e_catT (ha.is ed) (hb.is ee) (by rw [List.length_singleton]; omega)).imp fun _ z => ⟨p, z, hp'⟩) fun d ⟨p, ed, hp'⟩ => ?_
    · refine (e_var (i := 6)).imp fun d ed => ?_
      rw [ed]
      refine probe_of hj fun z => ?_
      rw [z] at h
      cases h
    · refine (e_tup1 (e_taken (n := (n : Int)) (a_row (a_cons e_var a_nil)) (by omega) (by omega))).imp fun d ⟨x, ed, k, hk, ex⟩ => ?_
      rw [ed, ex]
      exact probe_of (js := [k]) ⟨List.pairwise_singleton _ _, fun j hj => by rw [List.mem_singleton.mp hj]; omega⟩ (by simp)
    · subst ed
      refine ⟨_, _, _, rfl, by rw [List.length_append, List.length_singleton]; omega, fun z hz => ?_⟩
      rcases List.mem_append.mp hz with hz | hz
      · exact hp z hz
      · rw [List.mem_singleton.mp hz]; exact hp'
  · rintro G' ⟨ps, x, y, rfl, hl, hp⟩
    rw [rng_length] at hl
    refine s_ret (e_tup (ds := [.int n, .tuple ps]) (a_cons e_var (a_cons e_var a_nil)) (by show 2 ≤ 100000; decide)) fun t' q' e => ?_
    have e3 : t = t' ∧ q = q' := by
      injection e with _ e
      injection e with e1 e
      injection e with e2 _
      injection e1 with e1
      injection e1 with e1
      injection e2 with e2
      injection e2 with e2
      exact ⟨by omega, by omega⟩
    obtain ⟨rfl, rfl⟩ := e3
    exact ⟨n, ps, rfl, ⟨hn1, by omega, by omega, hp⟩, hn.1, by omega⟩
/-! the law's own answers -/
theorem any_empty {α : Type} (f : α → Bool) : ∀ xs : List α, (xs.filter f).isEmpty = !xs.any f
  | [] => rfl
  | x :: r => by
    rw [List.filter_cons, List.any_cons]
    cases h : f x with
    | true => rw [if_pos rfl]; rfl
    | false => rw [if_neg (by decide), any_empty f r]; rfl
/-- the scope of the comprehension in return f([..]) -/
def sc_in (st : Stmt) : Scope := match defBody st with
  | [.Return (some (.Call _ [.ListComp _ _ sc _] _ _)) _] => sc
  | _ => defScope st
theorem sc__law_answers : FnScope ["_law_plan_here", "_law_lot_here", "_law_probe", "_law_thing"] ["_law_plan_here", "_law_lot_here"] (defScope s__law_answers) := ⟨rfl, rfl, rfl, by decide +kernel, rfl, by decide +kernel, by decide +kernel⟩
def F_lans : List PyData → PyData
  | [.tuple [_, .tuple ps], l] => .tuple (ps.map fun p => ansD p l)
  | _ => .none
def IntT (d : PyData) : Prop := ∃ xs, d = .tuple xs ∧ IntsD xs ∧ xs.length ≤ 1000
theorem IntT.flat {d : PyData} (h : IntT d) : ∃ xs, d = .tuple xs ∧ FlatT xs := by
  obtain ⟨xs, e, a, b⟩ := h
  exact ⟨xs, e, a.flat, b⟩
abbrev sp_lans (K : PySem.W.Frag) (T : List (Addr × Str)) : Sp := spD K T (fun ds => ∃ (n : Nat) (ps : List PyData) (l : PyData), ds = [.tuple [.int n, .tuple ps], l] ∧ ps.length ≤ 1000 ∧ (∀ p ∈ ps, IntT p) ∧ IntT l) F_lans
theorem ok_lans {f : Addr} {fd : FuncData} (Fn : Fun K "_law_answers" "_law_answers" s__law_answers f fd) (X : Txt mg) : FnOk P w K mg base CX0 1 f fd ["_law_plan_here", "_law_lot_here"] (sp_lans K T) := by
  refine ok_defD Fn sc__law_answers (fun ds ⟨_, _, _, e, _⟩ => by rw [e]; rfl) fun cdv A outer s H E' hr => ?_
  refine ⟨_, (pss_one (ps_ret (pe_callTy (r := rTupQ K) call_tuple_of (by rfl) X.tuple bt_tuple (pa_cons (pe_lc (own := [("_law_probe", 2)]) rfl sc__law_answers.nd (pi_tup (pe_ix (r := rIxT K) ix_tup (pv 0) pe_int (fun _ _ => rfl))) (blkOk_by (N := ["_law_plan_here", "_law_lot_here", "_law_probe", "_law_thing"]) (sc := defScope s__law_answers) (by decide +kernel)) (fun _ _ _ _ _ => (pg_name (i := 2) sc__law_answers.nd rfl (by first | exact Or.inl rfl | exact Or.inr rfl))) (fun _ _ _ _ _ => pts_nil)
    (te := tCB rIntQ (tCons (tOp (rNeD K) (tLc (iTup K (tVar 2)) (gName 3) (tTest (tOp (rIn K false) (tVar 3) (tVar 1))) (tVar 3) [3]) (tLst tNil)) tNil)) (fun _ _ _ _ _ => (pe_callTy (r := rIntQ) call_int1 (by rfl) X.int bt_int (pa_cons (pe_cmpR (r := rNeD K) (op_neD hr.units) (pe_lc (wi := iTup K (tVar 2)) (tt := tTest (tOp (rIn K false) (tVar 3) (tVar 1))) (own := [("_law_thing", 3)]) rfl sc__law_answers.nd (pi_tup (pv 2)) (by exact blkOk_by (by rfl)) (fun _ _ _ _ _ => (pg_name (i := 3) sc__law_answers.nd rfl (by first | exact Or.inl rfl | exact Or.inr rfl))) (fun _ _ _ _ _ => (pts_one (pt_cmpR (r := rIn K false) op_in_seq (pv 3) (pv 1) (by rfl)))) (fun _ _ _ _ _ => (pv 3))) (pe_lst pa_nil) (nomark _)) pa_nil)))) pa_nil)))), ?_⟩
  rintro ds ⟨n, ps, l, rfl, hn, hp, ls, rfl, hl⟩
  refine s_ret (e_tupleL (a_cons (EL.is (el_lcM (vs := [2]) (fun p => ansD p (.tuple ls)) (i_tup (e_ixT (i := 1) e_var e_int rfl)) (fun d hd => ⟨_, tg_name (by decide), ?_⟩) (Nat.le_trans hn (by decide)))) a_nil)) rfl
  obtain ⟨xs, rfl, hx, hx2⟩ := hp d hd
  have sh1 : SeqAt.shaped (.list (xs.filter (memD ls))) = true := (sh_lst (k := 0) fun x hx' => hx.sh x (List.mem_filter.mp hx').1).shaped (by decide)
  refine E.is (e_intB (b := !PyData.eqv (.list (xs.filter (memD ls))) (.list [])) (a_cons (e_neD (E.is (EL.is (el_lcD (vs := [3]) (memD ls) (fun d => d) (i_tup e_var) (fun d hd => ⟨_, tg_name (by decide), ?_, fun _ => e_var⟩) (by omega))) (by rw [List.map_id'])) (EL.is (el_lst (ds := []) a_nil (by show 0 ≤ 100000; decide))) sh1 rfl) a_nil)) ?_
  · obtain ⟨i, rfl⟩ := hx d hd
    exact t_B (e_inSeq e_var e_var (.inr rfl) rfl hl.1.flat)
  · rw [eqv_nilL, any_empty, Bool.not_not]
    rfl
theorem ans_01 {p l : PyData} (hp : ∃ xs, p = .tuple xs ∧ FlatT xs) (hl : ∃ xs, l = .tuple xs ∧ FlatT xs) : ansD p l = .int 0 ∨ ansD p l = .int 1 := by
  obtain ⟨a, rfl, _⟩ := hp
  obtain ⟨b, rfl, _⟩ := hl
  show PyData.int (if hitD a b then 1 else 0) = _ ∨ PyData.int (if hitD a b then 1 else 0) = _
  cases hitD a b
  · exact .inl rfl
  · exact .inr rfl
theorem probe_int {n : Nat} {p : PyData} (h : isProbeD n p = true) (hn : n ≤ 10) : IntT p := by
  cases p with
  | tuple xs =>
    have h' : (lotGo n 0 xs && decide ((0 : Int) < xs.length)) = true := h
    rw [Bool.and_eq_true] at h'
    obtain ⟨a, b, c⟩ := lotGo_ok h'.1
    exact ⟨xs, rfl, fun d hd => let ⟨i, e, _⟩ := c d hd; ⟨i, e⟩, by omega⟩
  | _ => cases h
theorem lot_int {n : Nat} {js : List Nat} (h : GoodJ n js) (hn : n ≤ 1000) : IntT (lotD js) := ⟨_, rfl, intsD_map js, by rw [List.length_map]; have := h.len; omega⟩
theorem IntT.take {d : PyData} (h : IntT d) : ∃ ds, d = .tuple ds ∧ IntsD ds ∧ ds.length ≤ 1000 := h
theorem sc__law_said : FnScope ["_law_row_here", "_law_plan_here", "_law_due", "_law_found", "_law_one"] ["_law_row_here", "_law_plan_here"] (defScope s__law_said) := ⟨rfl, rfl, rfl, by decide +kernel, rfl, by decide +kernel, by decide +kernel⟩
abbrev sp_said (K : PySem.W.Frag) (T : List (Addr × Str)) : Sp := spA K T (fun os => ∃ (n : Nat) (ps : List PyData), os = [.row, .dat (.tuple [.int n, .tuple ps])] ∧ GoodP n ps) (fun os d => ∀ (n : Nat) (ps : List PyData), os = [.row, .dat (.tuple [.int n, .tuple ps])] → ∃ ts, d = .tuple ts ∧ ts.length = ps.length ∧ ∀ x ∈ ts, isAnsD x = true)
def saidL (x : PyData) (y : Int) : List PyData := [x, x, x, x, .int (1 - y), .none, .none]
theorem ok_said {f f1 f2 f3 : Addr} {fd fd1 fd2 fd3 : FuncData} (Fn : Fun K "_law_said" "_law_said" s__law_said f fd) (F1 : FnOk P w K mg base CX0 1 f1 fd1 ["_law_row_here", "_law_many"] (sp_taken K T)) (k1 : PySem.W.keepIn K (.ref f1) = true) (b1 : Binds K fd1 ["_law_row_here", "_law_many"] []) (m1 : mg "_law_taken" = some (.ref f1))
    (F2 : FnOk P w K mg base CX0 2 f2 fd2 ["_law_row_here", "_law_things"] (sp_lot K T)) (k2 : PySem.W.keepIn K (.ref f2) = true) (b2 : Binds K fd2 ["_law_row_here", "_law_things"] []) (m2 : mg "_law_lot" = some (.ref f2))
    (F3 : FnOk P w K mg base CX0 1 f3 fd3 ["_law_plan_here", "_law_lot_here"] (sp_lans K T)) (k3 : PySem.W.keepIn K (.ref f3) = true) (b3 : Binds K fd3 ["_law_plan_here", "_law_lot_here"] []) (m3 : mg "_law_answers" = some (.ref f3)) :
    FnOk P w K mg base CX0 3 f fd ["_law_row_here", "_law_plan_here"] (sp_said K T) := by
  refine ok_def Fn sc__law_said (fun os ⟨_, _, e, _⟩ => by rw [e]; rfl) fun cdv A outer s H E' hr => ?_
  have hr1 : Room 1 (A.deeper (envOfC "_law_said" (defScope s__law_said) s.heap.objs.size f cdv)) := hr.mono (by decide)
  refine ⟨_, (pss_cons (ps_par (i := 2) (j := 3) (by rfl) sc__law_said.nd rfl rfl (by decide) rfl rfl (pa_cons (pe_call F3 hr1 (by rfl) m3 k3 b3 .nil pass0 (pa_cons (pv 1) (pa_cons (pe_slice (r := rSlA K) sl_tupA (pe_call F2 hr (by rfl) m2 k2 b2 .nil pass0 (pa_cons (pv 0) (pa_cons (pe_ix (r := rIxT K) ix_tup (pv 1) pe_int (fun _ _ => rfl)) pa_nil))) po_none (po_some pe_int)) pa_nil))) (pa_cons (pe_tup pa_nil) pa_nil)) (by rfl))
  (pss_cons (ps_for PassesOwn.never rfl (pi_tup (pv 2)) (pg_name (i := 4) sc__law_said.nd rfl (by first | exact Or.inl rfl | exact Or.inr rfl)) (pss_one (ps_set (i := 3) sc__law_said.nd rfl (by first | exact Or.inl rfl | exact Or.inr rfl) (pe_op (r := rCatA K) op_catA (pv 3) (pe_tup (pa_cons (pe_ix (r := rIxL K) ix_list (pe_lst (pa_cons (pv 4) (pa_cons (pv 4) (pa_cons (pv 4) (pa_cons (pv 4) (pa_cons (pe_op op_sub pe_int (pv 4)) (pa_cons pe_non (pa_cons pe_non pa_nil)))))))) (pe_call F1 hr1 (by rfl) m1 k1 b1 .nil pass0 (pa_cons (pv 0) (pa_cons pe_int pa_nil))) (fun _ _ => rfl)) pa_nil))))))
  (pss_one (ps_ret (pv 3))))), ?_⟩
  rintro os ⟨n, ps, rfl, hg⟩
  have hn10 := hg.n10
  have hlen := hg.len
  have call : E K T (tCall (sp_lans K T) [] E0 (tCons (tVar 1) (tCons (tSl (rSlA K) (tCall (sp_lot K T) [] E0 (tCons (tVar 0) (tCons (tOp (rIxT K) (tVar 1) (tC (.int 0))) tNil))) tNoPart (tPart (tC (.int ((3 : Nat) : Int))))) tNil))) [some .row, some (.dat (.tuple [.int n, .tuple ps])), none, none, none] (fun d => ∃ rs : List PyData, rs.length = ps.length ∧ (∀ d ∈ rs, d = .int 0 ∨ d = .int 1) ∧ d = .tuple rs) := by
    refine e_callO (dvs := []) (a_consP (e_var (i := 1)) (a_consP (e_slT (k := 3) (P := fun ds => IntsD ds ∧ ds.length ≤ 1000) (e_call (P := IntT) (os := [.row, .dat (.int n)]) (a_row (a_cons (e_ixT (i := 0) e_var e_int rfl) a_nil)) ⟨n, rfl, by omega⟩ fun d p => ?_) fun ds p => ⟨fun d hd => p.1 d (List.mem_of_mem_take hd), by rw [List.length_take]; omega⟩) a_nil)) ?_
    · obtain ⟨js, rfl, hj⟩ := p n rfl
      exact lot_int hj (by omega)
    · rintro os ⟨d, r, rfl, rfl, l, r', rfl, ⟨ls, rfl, h1, h2⟩, rfl⟩
      have hps : ∀ p ∈ ps, IntT p := fun p hp => probe_int (hg.all p hp) hn10
      refine ⟨⟨[_, _], rfl, n, ps, _, rfl, by omega, hps, ls, rfl, h1, h2⟩, ?_⟩
      rintro d ⟨ds, e1, e2⟩
      have e3 := dats_inj (a := [.tuple [.int n, .tuple ps], .tuple ls]) e1
      subst e3
      refine ⟨ps.map fun p => ansD p (.tuple ls), by rw [List.length_map], fun x hx => ?_, e2⟩
      obtain ⟨p, hp, rfl⟩ := List.mem_map.mp hx
      exact ans_01 (hps p hp).flat ⟨ls, rfl, h1.flat, h2⟩
  refine s_seq (s_parP (R := fun os => ∃ rs : List PyData, rs.length = ps.length ∧ (∀ d ∈ rs, d = .int 0 ∨ d = .int 1) ∧ os = [.dat (.tuple rs), .dat (.tuple [])]) ((a_consP call (a_cons (e_tup (ds := []) a_nil (by show 0 ≤ 100000; decide)) a_nil)).imp fun os ⟨d, r, e, ⟨rs, h1, h2, ed⟩, er⟩ => ⟨rs, h1, h2, by rw [e, ed, er]⟩) fun os ⟨rs, h1, h2, e⟩ => ⟨_, _, e, ?_⟩)
  refine s_seq (s_for (vs := [4]) (fun i G' => ∃ ts x, G' = [some .row, some (.dat (.tuple [.int n, .tuple ps])), some (.dat (.tuple rs)), some (.dat (.tuple ts)), x] ∧ ts.length = i ∧ ∀ p ∈ ts, isAnsD p = true) (i_tup e_var) ⟨[], none, rfl, rfl, fun p hp => by cases hp⟩ ?_ ?_)
  · rintro i d G' hi hd ⟨ts, x, rfl, hl, hp⟩
    refine ⟨_, tg_name (by decide), ?_⟩
    obtain ⟨y, rfl, hy⟩ : ∃ y : Int, d = .int y ∧ (y = 0 ∨ y = 1) := by
      rcases h2 d (List.mem_of_getElem? hd) with z | z
      · exact ⟨0, z, .inl rfl⟩
      · exact ⟨1, z, .inr rfl⟩
    have hall : ∀ z ∈ saidL (.int y) y, isAnsD z = true := by
      rcases hy with rfl | rfl <;> decide
    refine s_asgP (e_opQ (P := (· = .tuple ts)) (R := fun d => ∃ p, d = .tuple (ts ++ [p]) ∧ isAnsD p = true) e_var (e_tup1 (P := fun p => isAnsD p = true) (e_ixLP (ds := saidL (.int y) y) (EL.is (el_lst (ds := saidL (.int y) y) (a_cons e_var (a_cons e_var (a_cons e_var (a_cons e_var (a_cons (e_sub e_int e_var) (a_cons e_non (a_cons e_non a_nil))))))) (by show 7 ≤ 100000; decide))) ((e_taken (n := 7) (a_row (a_cons e_int a_nil)) (by decide) (by decide)).imp fun d ⟨k, hk, e⟩ => ⟨k, by show k < 7; omega, e⟩) hall)) fun d e ed ⟨p, ee, hp'⟩ G ta tb ha hb => (e_catT (ha.is ed) (hb.is ee) (by rw [List.length_singleton]; omega)).imp fun _ z => ⟨p, z, hp'⟩) fun d ⟨p, ed, hp'⟩ => ?_
    subst ed
    refine ⟨_, _, rfl, by rw [List.length_append, List.length_singleton, hl], fun z hz => ?_⟩
    rcases List.mem_append.mp hz with hz | hz
    · exact hp z hz
    · rw [List.mem_singleton.mp hz]; exact hp'
  · rintro G' ⟨ts, x, rfl, hl, hp⟩
    refine s_ret e_var fun n' ps' e => ?_
    have e3 : ps = ps' := by
      injection e with _ e
      injection e with e _
      injection e with e
      injection e with e
      injection e with _ e
      injection e with e _
      injection e
    subst e3
    exact ⟨ts, rfl, by rw [hl, h1], hp⟩
end
end K17

namespace K17
open PySem PySem.Spec L2 Dv DvC DvT
open PyProof.Rows hiding St
section
variable {P : Program} {w : World} {K : PySem.W.Frag} {mg : Str → Option Value} {base : Heap} {T : List (Addr × Str)}
/-! other numbers of things -/
theorem nodup_len {α : Type} : ∀ {l R : List α}, l.Nodup → (∀ x ∈ l, x ∈ R) → l.length ≤ R.length
  | [], _, _, _ => Nat.zero_le _
  | x :: l, R, nd, h => by
    haveI : DecidableEq α := fun a b => Classical.propDecidable _
    rw [List.nodup_cons] at nd
    have hx := h x (List.mem_cons_self ..)
    have ih := nodup_len (l := l) (R := R.erase x) nd.2 fun y hy => (List.mem_erase_of_ne fun e => nd.1 (by rw [← e]; exact hy)).mpr (h y (List.mem_cons_of_mem _ hy))
    rw [List.length_erase_of_mem hx] at ih
    have := List.length_pos_of_mem hx
    show l.length + 1 ≤ _
    omega
structure Pm (n : Nat) (pl : List Nat) : Prop where
  len : pl.length = n
  nd : pl.Nodup
  lt : ∀ x ∈ pl, x < n
def piN (pl : List Nat) (j : Nat) : Nat := pl.getD j 0
theorem rise_eq {x y : List Nat} (hx : x.Pairwise (· < ·)) (hy : y.Pairwise (· < ·)) (h : ∀ j, j ∈ x ↔ j ∈ y) : x = y := by
  have nx : x.Nodup := hx.imp fun h => Nat.ne_of_lt h
  have ny : y.Nodup := hy.imp fun h => Nat.ne_of_lt h
  exact List.Perm.eq_of_pairwise (le := fun a b => a < b) (fun a b _ _ h1 h2 => absurd h1 (by omega)) hx hy ((List.perm_ext_iff_of_nodup nx ny).mpr h)
section
variable {n : Nat} {pl : List Nat}
theorem Pm.get (h : Pm n pl) {j : Nat} (hj : j < n) : pl[j]? = some (piN pl j) := by
  have hl : j < pl.length := by rw [h.len]; exact hj
  unfold piN
  rw [List.getD_eq_getElem?_getD, List.getElem?_eq_getElem hl]
  rfl
theorem Pm.plt (h : Pm n pl) {j : Nat} (hj : j < n) : piN pl j < n := h.lt _ (List.mem_of_getElem? (h.get hj))
theorem Pm.inj (h : Pm n pl) {j k : Nat} (hj : j < n) (hk : k < n) (e : piN pl j = piN pl k) : j = k := by
  have a := h.get hj
  have b := h.get hk
  rw [e, ← b] at a
  exact (List.getElem?_inj (by rw [h.len]; exact hj) h.nd).mp a
theorem Pm.all (h : Pm n pl) {k : Nat} (hk : k < n) : k ∈ pl := Decidable.byContradiction fun hn => by
  have z := nodup_len (l := k :: pl) (R := List.range n) (List.nodup_cons.mpr ⟨hn, h.nd⟩) fun x hx => by
    rcases List.mem_cons.mp hx with rfl | hx
    · exact List.mem_range.mpr hk
    · exact List.mem_range.mpr (h.lt x hx)
  rw [List.length_range] at z
  have z : pl.length + 1 ≤ n := z
  have := h.len
  omega
theorem Pm.sur (h : Pm n pl) {k : Nat} (hk : k < n) : ∃ j, j < n ∧ piN pl j = k := by
  obtain ⟨j, hj, e⟩ := List.mem_iff_getElem.mp (h.all hk)
  have hjn : j < n := by rw [← h.len]; exact hj
  refine ⟨j, hjn, ?_⟩
  have z := h.get hjn
  rw [List.getElem?_eq_getElem hj, e] at z
  exact (Option.some.inj z).symm
def leN (a b : Nat) : Bool := decide (a ≤ b)
def mv (pl js : List Nat) : List Nat := (js.map (piN pl)).mergeSort leN
theorem mv_perm (js : List Nat) : (mv pl js).Perm (js.map (piN pl)) := List.mergeSort_perm _ _
theorem mv_mem {js : List Nat} {k : Nat} : k ∈ mv pl js ↔ ∃ j ∈ js, piN pl j = k := by
  rw [(mv_perm js).mem_iff, List.mem_map]
theorem mv_len (js : List Nat) : (mv pl js).length = js.length := by rw [(mv_perm js).length_eq, List.length_map]
theorem map_nodup {α β : Type} {f : α → β} : ∀ {l : List α}, l.Nodup → (∀ a ∈ l, ∀ b ∈ l, f a = f b → a = b) → (l.map f).Nodup
  | [], _, _ => List.nodup_nil
  | a :: r, nd, h => by
    rw [List.nodup_cons] at nd
    rw [List.map_cons, List.nodup_cons]
    refine ⟨fun hm => ?_, map_nodup nd.2 fun x hx y hy => h x (List.mem_cons_of_mem _ hx) y (List.mem_cons_of_mem _ hy)⟩
    obtain ⟨b, hb, e⟩ := List.mem_map.mp hm
    have := h b (List.mem_cons_of_mem _ hb) a (List.mem_cons_self ..) e
    rw [this] at hb
    exact nd.1 hb
theorem Pm.good (h : Pm n pl) {js : List Nat} (g : GoodJ n js) : GoodJ n (mv pl js) := by
  have nd0 : js.Nodup := g.1.imp fun h => Nat.ne_of_lt h
  have nd : (mv pl js).Nodup := (mv_perm js).nodup_iff.mpr (map_nodup nd0 fun a ha b hb e => h.inj (g.2 a ha) (g.2 b hb) e)
  have tr : ∀ a b c : Nat, leN a b = true → leN b c = true → leN a c = true := fun a b c h1 h2 => decide_eq_true (Nat.le_trans (of_decide_eq_true h1) (of_decide_eq_true h2))
  have tot : ∀ a b : Nat, (leN a b || leN b a) = true := fun a b => by
    unfold leN
    rcases Nat.le_total a b with z | z
    · rw [decide_eq_true z]; rfl
    · rw [decide_eq_true z, Bool.or_true]
  have srt : (mv pl js).Pairwise fun a b => leN a b = true := List.pairwise_mergeSort (le := leN) tr tot (js.map (piN pl))
  refine ⟨?_, fun k hk => ?_⟩
  · have both := srt.and nd
    exact both.imp fun {a b} ⟨h1, h2⟩ => by
      have := of_decide_eq_true h1
      omega
  · obtain ⟨j, hj, rfl⟩ := mv_mem.mp hk
    exact h.plt (g.2 j hj)
theorem Pm.mv_inj (h : Pm n pl) {a b : List Nat} (ga : GoodJ n a) (gb : GoodJ n b) (e : mv pl a = mv pl b) : a = b := by
  have one : ∀ {a b : List Nat}, GoodJ n a → GoodJ n b → mv pl a = mv pl b → ∀ j ∈ a, j ∈ b := fun {a b} ga gb e j hj => by
    have z : piN pl j ∈ mv pl b := by rw [← e]; exact mv_mem.mpr ⟨j, hj, rfl⟩
    obtain ⟨k, hk, ek⟩ := mv_mem.mp z
    rw [← h.inj (gb.2 k hk) (ga.2 j hj) ek]
    exact hk
  exact rise_eq ga.1 gb.1 fun j => ⟨one ga gb e j, one gb ga e.symm j⟩
theorem Pm.mv_sur (h : Pm n pl) {js : List Nat} (g : GoodJ n js) : ∃ a, GoodJ n a ∧ a.length = js.length ∧ mv pl a = js := by
  have ga : GoodJ n ((List.range n).filter fun i => decide (piN pl i ∈ js)) := ⟨(List.pairwise_lt_range).filter _, fun j hj => List.mem_range.mp (List.mem_filter.mp hj).1⟩
  have e : mv pl ((List.range n).filter fun i => decide (piN pl i ∈ js)) = js := by
    refine rise_eq (h.good ga).1 g.1 fun k => ?_
    rw [mv_mem]
    constructor
    · rintro ⟨j, hj, rfl⟩
      exact of_decide_eq_true (List.mem_filter.mp hj).2
    · intro hk
      obtain ⟨j, hj, ej⟩ := h.sur (g.2 k hk)
      exact ⟨j, List.mem_filter.mpr ⟨List.mem_range.mpr hj, decide_eq_true (by rw [ej]; exact hk)⟩, ej⟩
  exact ⟨_, ga, by rw [← mv_len (pl := pl), e], e⟩
end
/-! lots by other numbers -/
def LotG (n : Nat) (l : PyData) : Prop := ∃ js, l = lotD js ∧ GoodJ n js
def natsOf : PyData → List Nat
  | .tuple xs => xs.map fun d => match d with
    | .int i => i.toNat
    | _ => 0
  | _ => []
theorem natsOf_lot (js : List Nat) : natsOf (lotD js) = js := by
  show (js.map fun (j : Nat) => PyData.int j).map _ = js
  rw [List.map_map]
  exact (List.map_congr_left fun j _ => (Int.toNat_natCast j)).trans (List.map_id _)
def movedD (pl : List Nat) (d : PyData) : PyData := lotD (mv pl (natsOf d))
theorem movedD_lot (pl js : List Nat) : movedD pl (lotD js) = lotD (mv pl js) := by unfold movedD; rw [natsOf_lot]
theorem lotD_inj {a b : List Nat} (h : lotD a = lotD b) : a = b := by rw [← natsOf_lot a, h, natsOf_lot]
theorem mem_int {j : Nat} : ∀ y : List Nat, memD (y.map fun (j : Nat) => PyData.int j) (.int j) = decide (j ∈ y)
  | [] => rfl
  | a :: y => by
    show (PyData.eqv (.int a) (.int j) || memD (y.map fun (j : Nat) => PyData.int j) (.int j)) = _
    rw [mem_int y]
    show (decide ((a : Int) = j) || decide (j ∈ y)) = _
    by_cases h : j = a
    · rw [decide_eq_true (show (a : Int) = j by omega), Bool.true_or]; exact (decide_eq_true (by rw [h]; exact List.mem_cons_self ..)).symm
    · rw [decide_eq_false (show ¬ (a : Int) = j by omega), Bool.false_or]
      exact decide_eq_decide.mpr ⟨fun m => List.mem_cons_of_mem _ m, fun m => (List.mem_cons.mp m).resolve_left h⟩
theorem hit_lots (a b : List Nat) : hitD (a.map fun (j : Nat) => PyData.int j) (b.map fun (j : Nat) => PyData.int j) = a.any fun j => decide (j ∈ b) := by
  unfold hitD
  rw [List.any_map]
  congr 1
  funext j
  exact mem_int b
section
variable {n : Nat} {pl : List Nat}
theorem Pm.hit (h : Pm n pl) {a b : List Nat} (ga : GoodJ n a) (gb : GoodJ n b) : ((mv pl a).any fun j => decide (j ∈ mv pl b)) = a.any fun j => decide (j ∈ b) := by
  rw [Bool.eq_iff_iff, List.any_eq_true, List.any_eq_true]
  constructor
  · rintro ⟨k, hk, hb⟩
    obtain ⟨j, hj, rfl⟩ := mv_mem.mp hk
    obtain ⟨i, hi, e⟩ := mv_mem.mp (of_decide_eq_true hb)
    exact ⟨j, hj, decide_eq_true (by rw [← h.inj (gb.2 i hi) (ga.2 j hj) e]; exact hi)⟩
  · rintro ⟨j, hj, hb⟩
    exact ⟨piN pl j, mv_mem.mpr ⟨j, hj, rfl⟩, decide_eq_true (mv_mem.mpr ⟨j, of_decide_eq_true hb, rfl⟩)⟩
/-- by other numbers a probe answers the same -/
theorem Pm.ans (h : Pm n pl) {p l : PyData} (hp : LotG n p) (hl : LotG n l) : ansD (movedD pl p) (movedD pl l) = ansD p l := by
  obtain ⟨a, rfl, ga⟩ := hp
  obtain ⟨b, rfl, gb⟩ := hl
  rw [movedD_lot, movedD_lot]
  show PyData.int (if hitD _ _ = true then 1 else 0) = .int (if hitD _ _ = true then 1 else 0)
  rw [hit_lots, hit_lots, h.hit ga gb]
theorem Pm.lotg (h : Pm n pl) {l : PyData} (hl : LotG n l) : LotG n (movedD pl l) := by
  obtain ⟨a, rfl, ga⟩ := hl
  exact ⟨mv pl a, movedD_lot pl a, h.good ga⟩
theorem Pm.m_inj (h : Pm n pl) {a b : PyData} (ha : LotG n a) (hb : LotG n b) (e : movedD pl a = movedD pl b) : a = b := by
  obtain ⟨x, rfl, gx⟩ := ha
  obtain ⟨y, rfl, gy⟩ := hb
  rw [movedD_lot, movedD_lot] at e
  rw [h.mv_inj gx gy (lotD_inj e)]
end
theorem combs_rise {n : Nat} : ∀ {r lo : Nat} {l : List Nat}, l ∈ combsFrom n r lo ↔ (l.length = r ∧ l.Pairwise (· < ·) ∧ ∀ j ∈ l, lo ≤ j ∧ j < n)
  | 0, lo, l => by
    unfold combsFrom
    rw [List.mem_singleton]
    constructor
    · rintro rfl
      exact ⟨rfl, .nil, fun j hj => by cases hj⟩
    · rintro ⟨h, _⟩
      exact List.eq_nil_of_length_eq_zero h
  | r + 1, lo, l => by
    unfold combsFrom
    rw [List.mem_flatMap]
    constructor
    · rintro ⟨i, hi, h⟩
      obtain ⟨l2, h2, rfl⟩ := List.mem_map.mp h
      obtain ⟨e, pw, hb⟩ := combs_rise.mp h2
      have hi := List.mem_range.mp hi
      refine ⟨by rw [List.length_cons, e], List.pairwise_cons.mpr ⟨fun j hj => by have := hb j hj; omega, pw⟩, fun j hj => ?_⟩
      rcases List.mem_cons.mp hj with rfl | hj
      · omega
      · have := hb j hj; omega
    · rintro ⟨e, pw, hb⟩
      cases l with
      | nil => cases e
      | cons a l2 =>
        have ha := hb a (List.mem_cons_self ..)
        rw [List.pairwise_cons] at pw
        refine ⟨a - lo, List.mem_range.mpr (by omega), List.mem_map.mpr ⟨l2, combs_rise.mpr ⟨by rw [List.length_cons] at e; omega, pw.2, fun j hj => ?_⟩, ?_⟩⟩
        · have := pw.1 j hj
          have := hb j (List.mem_cons_of_mem _ hj)
          omega
        · rw [show lo + (a - lo) = a by omega]
theorem mem_lotsN {n m : Nat} {l : PyData} : l ∈ lotsN n m ↔ ∃ js, l = lotD js ∧ GoodJ n js ∧ js.length ≤ m := by
  unfold lotsN
  rw [List.mem_flatMap]
  constructor
  · rintro ⟨d, hd, h⟩
    obtain ⟨i, hi, rfl⟩ := mem_rng hd
    obtain ⟨js, hj, rfl⟩ := List.mem_map.mp (show l ∈ (combs n i).map lotD from h)
    obtain ⟨e, pw, hb⟩ := combs_rise.mp hj
    exact ⟨js, rfl, ⟨pw, fun j hj => (hb j hj).2⟩, by omega⟩
  · rintro ⟨js, rfl, ⟨pw, hb⟩, hl⟩
    exact ⟨.int (js.length : Nat), List.mem_map.mpr ⟨js.length, List.mem_range.mpr (by omega), rfl⟩, show lotD js ∈ (combs n js.length).map lotD from List.mem_map.mpr ⟨js, combs_rise.mpr ⟨rfl, pw, fun j hj => ⟨Nat.zero_le _, hb j hj⟩⟩, rfl⟩⟩
theorem lotsN_nodup : ∀ n, n < 7 → ∀ m, m < 4 → ((lotsN n m).map natsOf).Nodup := by decide +kernel
theorem nodup_of_map {α β : Type} {f : α → β} : ∀ {l : List α}, (l.map f).Nodup → l.Nodup
  | [], _ => List.nodup_nil
  | x :: r, h => by
    rw [List.map_cons, List.nodup_cons] at h
    exact List.nodup_cons.mpr ⟨fun m => h.1 (List.mem_map.mpr ⟨x, m, rfl⟩), nodup_of_map h.2⟩
section
variable {n m : Nat} {pl : List Nat}
theorem lots_good {l : PyData} (h : l ∈ lotsN n m) : LotG n l := by
  obtain ⟨js, e, g, _⟩ := mem_lotsN.mp h
  exact ⟨js, e, g⟩
/-- by other numbers all lots are all lots -/
theorem Pm.lots (h : Pm n pl) (hn : n < 7) (hm : m < 4) : ((lotsN n m).map (movedD pl)).Perm (lotsN n m) := by
  have nd := nodup_of_map (lotsN_nodup n hn m hm)
  refine (List.perm_ext_iff_of_nodup (map_nodup nd fun a ha b hb e => h.m_inj (lots_good ha) (lots_good hb) e) nd).mpr fun l => ?_
  rw [List.mem_map]
  constructor
  · rintro ⟨d, hd, rfl⟩
    obtain ⟨js, rfl, g, hl⟩ := mem_lotsN.mp hd
    exact mem_lotsN.mpr ⟨mv pl js, movedD_lot pl js, h.good g, by rw [mv_len]; exact hl⟩
  · intro hd
    obtain ⟨js, rfl, g, hl⟩ := mem_lotsN.mp hd
    obtain ⟨a, ga, la, e⟩ := h.mv_sur g
    exact ⟨lotD a, mem_lotsN.mpr ⟨a, rfl, ga, by omega⟩, by rw [movedD_lot, e]⟩
end
end
end K17

namespace K17
open PySem PySem.Spec L2 Dv DvC DvT
open PyProof.Rows hiding St
section
variable {P : Program} {w : World} {K : PySem.W.Frag} {mg : Str → Option Value} {base : Heap} {T : List (Addr × Str)}
/-! how many unlike answers -/
noncomputable def unlikeN (ks : List (List Int)) : Nat := (unlike_ex ks).choose
theorem unlikeN_ok (ks : List (List Int)) : Unlike ks (unlikeN ks) := (unlike_ex ks).choose_spec
def bitI (p l : PyData) : Int := match ansD p l with
  | .int i => i
  | _ => 0
theorem ans_bit {p l : PyData} (hp : ∃ xs, p = .tuple xs ∧ FlatT xs) (hl : ∃ xs, l = .tuple xs ∧ FlatT xs) : ansD p l = .int (bitI p l) := by
  obtain ⟨a, rfl, _⟩ := hp
  obtain ⟨b, rfl, _⟩ := hl
  rfl
def rowI (ps : List PyData) (l : PyData) : List Int := ps.map fun p => bitI p l
theorem row_tup {ps : List PyData} {l : PyData} (hp : ∀ p ∈ ps, ∃ xs, p = .tuple xs ∧ FlatT xs) (hl : ∃ xs, l = .tuple xs ∧ FlatT xs) : PyData.tuple (ps.map fun p => ansD p l) = tupI (rowI ps l) := by
  unfold tupI rowI
  rw [List.map_map]
  congr 1
  exact List.map_congr_left fun p h => ans_bit (hp p h) hl
noncomputable def F_unlike : List PyData → PyData
  | [.tuple ps, .list ls] => .int (unlikeN (ls.map (rowI ps)))
  | _ => .none
theorem sc_how_many_unlike : FnScope ["probes", "lots", "lot"] ["probes", "lots"] (defScope s_how_many_unlike) := ⟨rfl, rfl, rfl, by decide +kernel, rfl, by decide +kernel, by decide +kernel⟩
abbrev sp_unlike (K : PySem.W.Frag) (T : List (Addr × Str)) : Sp := spD K T (fun ds => ∃ ps ls, ds = [.tuple ps, .list ls] ∧ ps.length ≤ 1000 ∧ (∀ p ∈ ps, ∃ xs, p = .tuple xs ∧ FlatT xs) ∧ ls.length < 63 ∧ ∀ l ∈ ls, ∃ xs, l = .tuple xs ∧ FlatT xs) F_unlike
theorem ok_unlike {f f1 : Addr} {fd fd1 : FuncData} (Fn : Fun K "how_many_unlike" "how_many_unlike" s_how_many_unlike f fd) (X : Txt mg) (F1 : FnOk P w K mg base CX0 3 f1 fd1 ["probes", "lot"] (sp_answers_of K T)) (k1 : PySem.W.keepIn K (.ref f1) = true) (b1 : Binds K fd1 ["probes", "lot"] []) (m1 : mg "answers_of" = some (.ref f1)) :
    FnOk P w K mg base CX0 4 f fd ["probes", "lots"] (sp_unlike K T) := by
  refine ok_defD Fn sc_how_many_unlike (fun ds ⟨_, _, e, _⟩ => by rw [e]; rfl) fun cdv A outer s H E' hr => ?_
  refine ⟨_, (pss_one (ps_ret (pe_callB (r := rLenS P w K) call_lenS (by rfl) X.len bt_len (pa_cons (pe_sct (own := [("lot", 2)]) rfl sc_how_many_unlike.nd hr.units (pi_list (pv 1)) (blkOk_by (N := ["probes", "lots", "lot"]) (sc := defScope s_how_many_unlike) (by decide +kernel)) (fun _ _ _ _ _ => (pg_name (i := 2) sc_how_many_unlike.nd rfl (by first | exact Or.inl rfl | exact Or.inr rfl))) (fun _ _ _ _ _ => pts_nil) (fun _ _ _ _ _ => (pe_call F1 hr (by rfl) m1 k1 b1 .nil pass0 (pa_cons (pv 0) (pa_cons (pv 2) pa_nil))))) pa_nil)))), ?_⟩
  rintro ds ⟨ps, ls, rfl, hn, hp, hl, hls⟩
  refine s_ret (e_lenSct (vs := [2]) (ds := ls) (rowI ps) (N := unlikeN (ls.map (rowI ps))) (i_list e_var) (fun d hd => ⟨_, tg_name (by decide), t_yes, ?_⟩) hl (unlikeN_ok _)) rfl
  obtain ⟨xs, rfl, hx⟩ := hls d hd
  exact E.is (e_callD (F := F_answers_of) (ds := [.tuple ps, .tuple xs]) (a_cons e_var (a_cons e_var a_nil)) ⟨ps, xs, rfl, hn, hp, hx⟩) (row_tup hp ⟨xs, rfl, hx⟩)
/-! slices at a place -/
theorem e_slTo {G : Dv.Ctx} {ta tb : TE} {ds : List PyData} {k : Nat} (ha : E K T ta G (· = .tuple ds)) (hb : E K T tb G (· = .int k)) : E K T (tSl (rSlA K) ta tNoPart (tPart tb)) G (· = .tuple (ds.take k)) := fun W σ H s j Q q => ha W σ H s j _ fun v d H1 e1 j1 dv pv => hb W σ H1 (s.mono e1) j1 _ fun u d2 H2 e2 j2 du pu => by
  subst pv pu
  obtain ⟨a, xs, rfl, nx, ha, al⟩ := (dv.mono e2).tup_inv
  have hl := al.length
  have hs : HT.sIx xs.length xs.length (some (k : Int)) = min k xs.length := HT.sIx_nat _ _ _
  refine ⟨k, du.int_inv, a, xs, rfl, SqT.of ha, fun z => q _ _ H2 (e1.trans e2) j2 (dv.mono e2) ?_, fun _ x hx => ?_⟩
  · have z2 := z.2
    rw [hs] at z2
    rw [List.take_of_length_le (by omega)]
  · have ec : cutV xs none (some (k : Int)) = xs.take k := by
      unfold cutV
      rw [hs, HT.sIx_none, List.drop_zero, Nat.sub_zero]
      rcases Nat.le_total k xs.length with z | z
      · rw [Nat.min_eq_left z]
      · rw [Nat.min_eq_right z, List.take_of_length_le (Nat.le_refl _), List.take_of_length_le z]
    rw [ec]
    exact q _ _ _ ((e1.trans e2).trans (.new hx)) (j_new j2 hx) (.tup (new_ne j2 hx) upd_same ((al.take k).mono (.new hx))) rfl
theorem e_slFrom {G : Dv.Ctx} {ta tb : TE} {ds : List PyData} {k : Nat} (ha : E K T ta G (· = .tuple ds)) (hb : E K T tb G (· = .int k)) : E K T (tSl (rSlA K) ta (tPart tb) tNoPart) G (· = .tuple (ds.drop k)) := fun W σ H s j Q q => ha W σ H s j _ fun v d H1 e1 j1 dv pv => hb W σ H1 (s.mono e1) j1 _ fun u d2 H2 e2 j2 du pu => by
  subst pv pu
  obtain ⟨a, xs, rfl, nx, ha, al⟩ := (dv.mono e2).tup_inv
  have hl := al.length
  have hs : HT.sIx xs.length 0 (some (k : Int)) = min k xs.length := HT.sIx_nat _ _ _
  refine ⟨k, du.int_inv, a, xs, rfl, SqT.of ha, fun z => q _ _ H2 (e1.trans e2) j2 (dv.mono e2) ?_, fun _ x hx => ?_⟩
  · have z1 := z.1
    rw [hs] at z1
    rcases Nat.eq_zero_or_pos k with h0 | h0
    · rw [h0, List.drop_zero]
    · have h2 : xs.length = 0 := by omega
      have h3 : ds = [] := List.eq_nil_of_length_eq_zero (by omega)
      rw [h3, List.drop_nil]
  · have ec : cutV xs (some (k : Int)) none = xs.drop k := by
      unfold cutV
      rw [hs, HT.sIx_none]
      rcases Nat.le_total k xs.length with z | z
      · rw [Nat.min_eq_left z, List.take_of_length_le (by rw [List.length_drop]; exact Nat.le_refl _)]
      · rw [Nat.min_eq_right z, List.drop_of_length_le (Nat.le_refl _), List.drop_of_length_le z, List.take_nil]
    rw [ec]
    exact q _ _ _ ((e1.trans e2).trans (.new hx)) (j_new j2 hx) (.tup (new_ne j2 hx) upd_same ((al.drop k).mono (.new hx))) rfl
/-! kinds, idle -/
structure PreM (n : Nat) (ps : List PyData) (m : Nat) : Prop where
  g : GoodP n ps
  n6 : n ≤ 6
  m3 : m ≤ 3
theorem lots_len6 : ∀ n, n < 7 → ∀ m, m < 4 → (lotsN n m).length < 43 := by decide +kernel
theorem PreM.len {n : Nat} {ps : List PyData} {m : Nat} (h : PreM n ps m) : (lotsN n m).length < 43 := by
  have := h.n6
  have := h.m3
  exact lots_len6 n (by omega) m (by omega)
theorem PreM.lot {n : Nat} {ps : List PyData} {m : Nat} (h : PreM n ps m) {l : PyData} (hl : l ∈ lotsN n m) : ∃ xs, l = .tuple xs ∧ FlatT xs := by
  have := h.n6
  have := h.m3
  obtain ⟨js, rfl, a, _⟩ := lots_ok (by omega) (by omega) hl
  exact ⟨_, rfl, lotD_flat a⟩
theorem PreM.ps_ok {n : Nat} {ps : List PyData} {m : Nat} (h : PreM n ps m) : ∀ p ∈ ps, ∃ xs, p = .tuple xs ∧ FlatT xs := fun p hp => probe_ok (h.g.all p hp) h.g.n10
noncomputable def kindsN (n : Nat) (ps : List PyData) (m : Nat) : Nat := unlikeN ((lotsN n m).map (rowI ps))
noncomputable def F_kinds : List PyData → PyData
  | [.tuple [.int n, .tuple ps], .int m] => .int (kindsN n.toNat ps m.toNat)
  | _ => .none
abbrev sp_kinds (K : PySem.W.Frag) (T : List (Addr × Str)) : Sp := spD K T (fun ds => ∃ (n : Nat) (ps : List PyData) (m : Nat), ds = [.tuple [.int n, .tuple ps], .int m] ∧ PreM n ps m) F_kinds
theorem sc_kinds : FnScope ["plan", "most", "things", "probes"] ["plan", "most"] (defScope s_kinds) := ⟨rfl, rfl, rfl, by decide +kernel, rfl, by decide +kernel, by decide +kernel⟩
theorem ok_kinds {f f1 f2 f3 f4 : Addr} {fd fd1 fd2 fd3 fd4 : FuncData} (Fn : Fun K "kinds" "kinds" s_kinds f fd)
    (F1 : FnOk P w K mg base CX0 4 f1 fd1 ["plan"] (sp_check_plan K T)) (k1 : PySem.W.keepIn K (.ref f1) = true) (b1 : Binds K fd1 ["plan"] []) (m1 : mg "check_plan" = some (.ref f1))
    (F2 : FnOk P w K mg base CX0 3 f2 fd2 ["most"] (sp_check_most K T)) (k2 : PySem.W.keepIn K (.ref f2) = true) (b2 : Binds K fd2 ["most"] []) (m2 : mg "check_most" = some (.ref f2))
    (F3 : FnOk P w K mg base CX0 2 f3 fd3 ["things", "most"] (sp_lots_up_to K T)) (k3 : PySem.W.keepIn K (.ref f3) = true) (b3 : Binds K fd3 ["things", "most"] []) (m3 : mg "lots_up_to" = some (.ref f3))
    (F4 : FnOk P w K mg base CX0 4 f4 fd4 ["probes", "lots"] (sp_unlike K T)) (k4 : PySem.W.keepIn K (.ref f4) = true) (b4 : Binds K fd4 ["probes", "lots"] []) (m4 : mg "how_many_unlike" = some (.ref f4)) :
    FnOk P w K mg base CX0 5 f fd ["plan", "most"] (sp_kinds K T) := by
  refine ok_defD Fn sc_kinds (fun ds ⟨_, _, _, e, _⟩ => by rw [e]; rfl) fun cdv A outer s H E' hr => ?_
  have hr2 : Room 2 (A.deeper (envOfC "kinds" (defScope s_kinds) s.heap.objs.size f cdv)) := hr.mono (by decide)
  have hr3 : Room 3 (A.deeper (envOfC "kinds" (defScope s_kinds) s.heap.objs.size f cdv)) := hr.mono (by decide)
  refine ⟨_, (pss_cons (ps_expr (pe_call F1 hr (by rfl) m1 k1 b1 .nil pass0 (pa_cons (pv 0) pa_nil)))
  (pss_cons (ps_expr (pe_call F2 hr3 (by rfl) m2 k2 b2 .nil pass0 (pa_cons (pv 1) pa_nil)))
  (pss_cons (ps_asg (pv 0) (pg_tup rfl (pgs_cons (pg_name (i := 2) sc_kinds.nd rfl (by first | exact Or.inl rfl | exact Or.inr rfl)) (pgs_cons (pg_name (i := 3) sc_kinds.nd rfl (by first | exact Or.inl rfl | exact Or.inr rfl)) pgs_nil))))
  (pss_one (ps_ret (pe_call F4 hr (by rfl) m4 k4 b4 .nil pass0 (pa_cons (pv 3) (pa_cons (pe_call F3 hr2 (by rfl) m3 k3 b3 .nil pass0 (pa_cons (pv 2) (pa_cons (pv 1) pa_nil))) pa_nil)))))))), ?_⟩
  rintro ds ⟨n, ps, m, rfl, h⟩
  have hl := h.len
  have h6 := h.n6
  have hm := h.m3
  have h16 := h.g.len
  refine s_seq (s_drop (e_callD (F := F_none) (ds := [.tuple [.int n, .tuple ps]]) (a_cons e_var a_nil) ⟨n, ps, rfl, h.g⟩) ?_)
  refine s_seq (s_drop (e_callD (F := F_none) (ds := [.int m]) (a_cons e_var a_nil) ⟨m, rfl, by omega, by omega⟩) ?_)
  refine s_seq (s_asgTg e_var (tg_pair (vs := [2, 3]) (by decide) (by decide)) ?_)
  exact s_ret (e_callD (F := F_unlike) (ds := [.tuple ps, .list (lotsN n m)]) (a_cons e_var (a_cons (EL.is (el_callD (F := F_lots_up_to) (ds := [.int n, .int m]) (a_cons e_var (a_cons e_var a_nil)) ⟨n, m, rfl, by omega, by omega⟩)) a_nil)) ⟨ps, _, rfl, by omega, h.ps_ok, by omega, fun l hl' => h.lot hl'⟩) rfl
def woL (ps : List PyData) (k : Nat) : List PyData := ps.take k ++ ps.drop (k + 1)
def F_without : List PyData → PyData
  | [.tuple ps, .int k] => .tuple (woL ps k.toNat)
  | _ => .none
abbrev sp_without (K : PySem.W.Frag) (T : List (Addr × Str)) : Sp := spD K T (fun ds => ∃ (ps : List PyData) (k : Nat), ds = [.tuple ps, .int k] ∧ ps.length ≤ 1000) F_without
theorem sc_without : FnScope ["probes", "number"] ["probes", "number"] (defScope s_without) := ⟨rfl, rfl, rfl, by decide +kernel, rfl, by decide +kernel, by decide +kernel⟩
theorem ok_without {f : Addr} {fd : FuncData} (Fn : Fun K "without" "without" s_without f fd) : FnOk P w K mg base CX0 1 f fd ["probes", "number"] (sp_without K T) := by
  refine ok_defD Fn sc_without (fun ds ⟨_, _, e, _⟩ => by rw [e]; rfl) fun cdv A outer s H E' hr => ?_
  refine ⟨_, (pss_one (ps_ret (pe_op (r := rCatA K) op_catA (pe_slice (r := rSlA K) sl_tupA (pv 0) po_none (po_some (pv 1))) (pe_slice (r := rSlA K) sl_tupA (pv 0) (po_some (pe_op op_add (pv 1) pe_int)) po_none)))), ?_⟩
  rintro ds ⟨ps, k, rfl, hn⟩
  have ek : ((k : Int) + 1) = ((k + 1 : Nat) : Int) := by omega
  exact s_ret (e_catT (e_slTo e_var e_var) (e_slFrom e_var (E.is (e_add e_var e_int) (by rw [ek]; rfl))) (by rw [List.length_take, List.length_drop]; omega)) rfl
noncomputable def idleL (n : Nat) (ps : List PyData) (m : Nat) : List PyData := (rng ps.length).filter fun d => match d with
  | .int k => decide (unlikeN ((lotsN n m).map (rowI (woL ps k.toNat))) = kindsN n ps m)
  | _ => false
noncomputable def F_idle : List PyData → List PyData
  | [.tuple [.int n, .tuple ps], .int m] => idleL n.toNat ps m.toNat
  | _ => []
theorem wo_mem {ps : List PyData} {k : Nat} {p : PyData} (h : p ∈ woL ps k) : p ∈ ps := by
  rcases List.mem_append.mp h with h | h
  · exact List.mem_of_mem_take h
  · exact List.mem_of_mem_drop h
theorem wo_len {ps : List PyData} {k : Nat} : (woL ps k).length ≤ ps.length + ps.length := by
  unfold woL
  rw [List.length_append, List.length_take, List.length_drop]
  omega
abbrev sp_idle (K : PySem.W.Frag) (T : List (Addr × Str)) : Sp := spDL K T (fun ds => ∃ (n : Nat) (ps : List PyData) (m : Nat), ds = [.tuple [.int n, .tuple ps], .int m] ∧ PreM n ps m) F_idle
theorem sc_idle : FnScope ["plan", "most", "things", "probes", "lots", "whole", "number"] ["plan", "most"] (defScope s_idle) := ⟨rfl, rfl, rfl, by decide +kernel, rfl, by decide +kernel, by decide +kernel⟩
theorem ok_idle {f f1 f2 f3 f4 f5 : Addr} {fd fd1 fd2 fd3 fd4 fd5 : FuncData} (Fn : Fun K "idle" "idle" s_idle f fd) (X : Txt mg)
    (F1 : FnOk P w K mg base CX0 4 f1 fd1 ["plan"] (sp_check_plan K T)) (k1 : PySem.W.keepIn K (.ref f1) = true) (b1 : Binds K fd1 ["plan"] []) (m1 : mg "check_plan" = some (.ref f1))
    (F2 : FnOk P w K mg base CX0 3 f2 fd2 ["most"] (sp_check_most K T)) (k2 : PySem.W.keepIn K (.ref f2) = true) (b2 : Binds K fd2 ["most"] []) (m2 : mg "check_most" = some (.ref f2))
    (F3 : FnOk P w K mg base CX0 2 f3 fd3 ["things", "most"] (sp_lots_up_to K T)) (k3 : PySem.W.keepIn K (.ref f3) = true) (b3 : Binds K fd3 ["things", "most"] []) (m3 : mg "lots_up_to" = some (.ref f3))
    (F4 : FnOk P w K mg base CX0 4 f4 fd4 ["probes", "lots"] (sp_unlike K T)) (k4 : PySem.W.keepIn K (.ref f4) = true) (b4 : Binds K fd4 ["probes", "lots"] []) (m4 : mg "how_many_unlike" = some (.ref f4))
    (F5 : FnOk P w K mg base CX0 1 f5 fd5 ["probes", "number"] (sp_without K T)) (k5 : PySem.W.keepIn K (.ref f5) = true) (b5 : Binds K fd5 ["probes", "number"] []) (m5 : mg "without" = some (.ref f5)) :
    FnOk P w K mg base CX0 5 f fd ["plan", "most"] (sp_idle K T) := by
  refine ok_defDL Fn sc_idle (fun ds ⟨_, _, _, e, _⟩ => by rw [e]; rfl) fun cdv A outer s H E' hr => ?_
  have hr1 : Room 1 (A.deeper (envOfC "idle" (defScope s_idle) s.heap.objs.size f cdv)) := hr.mono (by decide)
  have hr2 : Room 2 (A.deeper (envOfC "idle" (defScope s_idle) s.heap.objs.size f cdv)) := hr.mono (by decide)
  have hr3 : Room 3 (A.deeper (envOfC "idle" (defScope s_idle) s.heap.objs.size f cdv)) := hr.mono (by decide)
  refine ⟨_, (pss_cons (ps_expr (pe_call F1 hr (by rfl) m1 k1 b1 .nil pass0 (pa_cons (pv 0) pa_nil)))
  (pss_cons (ps_expr (pe_call F2 hr3 (by rfl) m2 k2 b2 .nil pass0 (pa_cons (pv 1) pa_nil)))
  (pss_cons (ps_asg (pv 0) (pg_tup rfl (pgs_cons (pg_name (i := 2) sc_idle.nd rfl (by first | exact Or.inl rfl | exact Or.inr rfl)) (pgs_cons (pg_name (i := 3) sc_idle.nd rfl (by first | exact Or.inl rfl | exact Or.inr rfl)) pgs_nil))))
  (pss_cons (ps_set (i := 4) sc_idle.nd rfl (by first | exact Or.inl rfl | exact Or.inr rfl) (pe_call F3 hr2 (by rfl) m3 k3 b3 .nil pass0 (pa_cons (pv 2) (pa_cons (pv 1) pa_nil))))
  (pss_cons (ps_set (i := 5) sc_idle.nd rfl (by first | exact Or.inl rfl | exact Or.inr rfl) (pe_call F4 hr (by rfl) m4 k4 b4 .nil pass0 (pa_cons (pv 3) (pa_cons (pv 4) pa_nil))))
  (pss_one (ps_ret (pe_lc (own := [("number", 6)]) rfl sc_idle.nd (pi_range1 rfl X.range (pa_cons (pe_callB (r := rLenQ K) call_len_seq (by rfl) X.len bt_len (pa_cons (pv 3) pa_nil)) pa_nil)) (blkOk_by (N := ["plan", "most", "things", "probes", "lots", "whole", "number"]) (sc := defScope s_idle) (by decide +kernel)) (fun _ _ _ _ _ => (pg_name (i := 6) sc_idle.nd rfl (by first | exact Or.inl rfl | exact Or.inr rfl))) (fun _ _ _ _ _ => (pts_one (pt_cmpR op_eq (pe_call F4 hr (by rfl) m4 k4 b4 .nil pass0 (pa_cons (pe_call F5 hr1 (by rfl) m5 k5 b5 .nil pass0 (pa_cons (pv 3) (pa_cons (pv 6) pa_nil))) (pa_cons (pv 4) pa_nil))) (pv 5) (nomark _)))) (fun _ _ _ _ _ => (pv 6)))))))))), ?_⟩
  rintro ds ⟨n, ps, m, rfl, h⟩
  have hl := h.len
  have h6 := h.n6
  have hm := h.m3
  have h16 := h.g.len
  refine s_seq (s_drop (e_callD (F := F_none) (ds := [.tuple [.int n, .tuple ps]]) (a_cons e_var a_nil) ⟨n, ps, rfl, h.g⟩) ?_)
  refine s_seq (s_drop (e_callD (F := F_none) (ds := [.int m]) (a_cons e_var a_nil) ⟨m, rfl, by omega, by omega⟩) ?_)
  refine s_seq (s_asgTg e_var (tg_pair (vs := [2, 3]) (by decide) (by decide)) ?_)
  refine s_seq (s_asg (d := .list (lotsN n m)) (EL.is (el_callD (F := F_lots_up_to) (ds := [.int n, .int m]) (a_cons e_var (a_cons e_var a_nil)) ⟨n, m, rfl, by omega, by omega⟩)) ?_)
  refine s_seq (s_asg (d := .int (kindsN n ps m)) (e_callD (F := F_unlike) (ds := [.tuple ps, .list (lotsN n m)]) (a_cons e_var (a_cons e_var a_nil)) ⟨ps, _, rfl, by omega, h.ps_ok, by omega, fun l hl' => h.lot hl'⟩) ?_)
  refine s_retL (el_lcD (vs := [6]) (fun d => match d with
    | .int k => decide (unlikeN ((lotsN n m).map (rowI (woL ps k.toNat))) = kindsN n ps m)
    | _ => false) (fun d => d) (i_rngN (n := ps.length) (a_cons (e_len (a_cons e_var a_nil) (.inr rfl)) a_nil) (by omega)) (fun d hd => ?_) (by rw [rng_length]; omega)) fun d hd => ?_
  · obtain ⟨k, hk, rfl⟩ := mem_rng hd
    refine ⟨_, tg_name (by decide), ET.is (t_B (e_eq (d := .int (unlikeN ((lotsN n m).map (rowI (woL ps k))))) (e := .int (kindsN n ps m)) (e_callD (F := F_unlike) (ds := [.tuple (woL ps k), .list (lotsN n m)]) (a_cons (e_callD (F := F_without) (ds := [.tuple ps, .int k]) (a_cons e_var (a_cons e_var a_nil)) ⟨ps, k, rfl, by omega⟩) (a_cons e_var a_nil)) ⟨woL ps k, _, rfl, ?_, fun p hp => h.ps_ok p (wo_mem hp), by omega, fun l hl' => h.lot hl'⟩) e_var rfl)) ?_, fun _ => e_var⟩
    · have := wo_len (ps := ps) (k := k)
      omega
    · show decide ((unlikeN ((lotsN n m).map (rowI (woL ps k))) : Int) = kindsN n ps m) = decide (unlikeN ((lotsN n m).map (rowI (woL ps k))) = kindsN n ps m)
      exact decide_eq_decide.mpr (by omega)
  · rw [hd, List.map_id']
    rfl
end
end K17

namespace K17
open PySem PySem.Spec L2 Dv DvC DvT
open PyProof.Rows hiding St
section
variable {P : Program} {w : World} {K : PySem.W.Frag} {mg : Str → Option Value} {base : Heap} {T : List (Addr × Str)}
/-! a whole plan by other numbers -/
theorem go_lot {n : Nat} : ∀ {xs : List PyData} {lo : Nat}, lotGo n lo xs = true → ∃ js : List Nat, xs = js.map (fun (j : Nat) => PyData.int j) ∧ js.Pairwise (· < ·) ∧ ∀ j ∈ js, lo ≤ j ∧ j < n
  | [], lo, _ => ⟨[], rfl, .nil, fun j hj => by cases hj⟩
  | .int i :: r, lo, h => by
    have h' : ((decide ((lo : Int) ≤ i) && decide (i ≤ n - 1)) && lotGo n (i + 1) r) = true := h
    rw [Bool.and_eq_true, Bool.and_eq_true] at h'
    obtain ⟨⟨a, b⟩, c⟩ := h'
    have a := of_decide_eq_true a
    have b := of_decide_eq_true b
    obtain ⟨k, rfl⟩ : ∃ k : Nat, i = k := ⟨i.toNat, by omega⟩
    obtain ⟨js, e, pw, hb⟩ := go_lot (lo := k + 1) (show lotGo n ((k + 1 : Nat) : Int) r = true by rw [show ((k + 1 : Nat) : Int) = (k : Int) + 1 by omega]; exact c)
    refine ⟨k :: js, by rw [e]; rfl, List.pairwise_cons.mpr ⟨fun j hj => by have := hb j hj; omega, pw⟩, fun j hj => ?_⟩
    rcases List.mem_cons.mp hj with rfl | hj
    · omega
    · have := hb j hj; omega
theorem probe_lot {n : Nat} {p : PyData} (h : isProbeD n p = true) : ∃ js, p = lotD js ∧ GoodJ n js ∧ js ≠ [] := by
  cases p with
  | tuple xs =>
    have h' : (lotGo n 0 xs && decide ((0 : Int) < xs.length)) = true := h
    rw [Bool.and_eq_true] at h'
    obtain ⟨js, e, pw, hb⟩ := go_lot (lo := 0) h'.1
    refine ⟨js, by rw [e]; rfl, ⟨pw, fun j hj => (hb j hj).2⟩, fun z => ?_⟩
    subst z
    subst e
    exact absurd (of_decide_eq_true h'.2) (by decide)
  | _ => cases h
theorem GoodP.lots {n : Nat} {ps : List PyData} (h : GoodP n ps) : ∀ p ∈ ps, LotG n p := fun p hp => by
  obtain ⟨js, e, g, _⟩ := probe_lot (h.all p hp)
  exact ⟨js, e, g⟩
theorem LotG.flat {n : Nat} (hn : n ≤ 10) {l : PyData} (h : LotG n l) : ∃ xs, l = .tuple xs ∧ FlatT xs := by
  obtain ⟨js, rfl, g⟩ := h
  have := g.len
  exact ⟨_, rfl, lotD_flat (by omega)⟩
section
variable {n m sl : Nat} {pl : List Nat} {ps ts : List PyData}
theorem Pm.goodp (h : Pm n pl) (g : GoodP n ps) : GoodP n (ps.map (movedD pl)) := by
  refine ⟨g.n1, g.n10, by rw [List.length_map]; exact g.len, fun p hp => ?_⟩
  obtain ⟨q, hq, rfl⟩ := List.mem_map.mp hp
  obtain ⟨js, rfl, gj, ne⟩ := probe_lot (g.all q hq)
  rw [movedD_lot]
  refine probe_of (h.good gj) fun z => ne ?_
  have := mv_len (pl := pl) js
  rw [z] at this
  exact List.eq_nil_of_length_eq_zero this.symm
theorem Pm.ansL (h : Pm n pl) (hp : ∀ p ∈ ps, LotG n p) {l : PyData} (hl : LotG n l) : ((ps.map (movedD pl)).map fun p => ansD p (movedD pl l)) = ps.map fun p => ansD p l := by
  rw [List.map_map]
  exact List.map_congr_left fun p hp' => h.ans (hp p hp') hl
theorem Pm.rowI (h : Pm n pl) (hp : ∀ p ∈ ps, LotG n p) {l : PyData} (hl : LotG n l) : rowI (ps.map (movedD pl)) (movedD pl l) = rowI ps l := by
  unfold K17.rowI
  rw [List.map_map]
  refine List.map_congr_left fun p hp' => ?_
  show bitI (movedD pl p) (movedD pl l) = bitI p l
  unfold bitI
  rw [h.ans (hp p hp') hl]
theorem unlike_same {a b : List (List Int)} (h : ∀ k, k ∈ a ↔ k ∈ b) : unlikeN a = unlikeN b := by
  have nd : ∀ l : List (List Int), ∃ js : List (List Int), js.Nodup ∧ ∀ k, k ∈ js ↔ k ∈ l := fun l => by
    induction l with
    | nil => exact ⟨[], List.nodup_nil, fun k => Iff.rfl⟩
    | cons x r ih =>
      obtain ⟨js, h1, h2⟩ := ih
      by_cases hx : x ∈ js
      · exact ⟨js, h1, fun k => by rw [h2 k, List.mem_cons]; exact ⟨.inr, fun z => z.elim (fun e => by rw [e]; exact (h2 x).mp hx) id⟩⟩
      · exact ⟨x :: js, List.nodup_cons.mpr ⟨hx, h1⟩, fun k => by rw [List.mem_cons, List.mem_cons, h2 k]⟩
  obtain ⟨js, h1, h2⟩ := nd a
  rw [← unlikeN_ok a js h1 h2]
  exact unlikeN_ok b js h1 fun k => by rw [h2 k, h k]
theorem Pm.unlike (h : Pm n pl) (hn : n < 7) (hm : m < 4) (hp : ∀ p ∈ ps, LotG n p) : unlikeN ((lotsN n m).map (K17.rowI (ps.map (movedD pl)))) = unlikeN ((lotsN n m).map (K17.rowI ps)) := by
  refine unlike_same fun k => ?_
  rw [List.mem_map, List.mem_map]
  constructor
  · rintro ⟨l, hl, rfl⟩
    obtain ⟨l0, hl0, rfl⟩ := List.mem_map.mp ((h.lots hn hm).mem_iff.mpr hl)
    exact ⟨l0, hl0, (h.rowI hp (lots_good hl0)).symm⟩
  · rintro ⟨l, hl, rfl⟩
    exact ⟨movedD pl l, (h.lots hn hm).mem_iff.mp (List.mem_map_of_mem hl), h.rowI hp (lots_good hl)⟩
theorem Pm.kinds (h : Pm n pl) (hn : n < 7) (hm : m < 4) (hp : ∀ p ∈ ps, LotG n p) : kindsN n (ps.map (movedD pl)) m = kindsN n ps m := h.unlike hn hm hp
theorem wo_map (f : PyData → PyData) (k : Nat) : woL (ps.map f) k = (woL ps k).map f := by
  unfold woL
  rw [List.map_append, List.map_take, List.map_drop]
theorem Pm.idle (h : Pm n pl) (hn : n < 7) (hm : m < 4) (hp : ∀ p ∈ ps, LotG n p) : idleL n (ps.map (movedD pl)) m = idleL n ps m := by
  unfold idleL
  rw [List.length_map, h.kinds hn hm hp]
  refine List.filter_congr fun d hd => ?_
  obtain ⟨k, _, rfl⟩ := mem_rng hd
  show decide (unlikeN ((lotsN n m).map (K17.rowI (woL (ps.map (movedD pl)) (((k : Nat) : Int).toNat)))) = kindsN n ps m) = decide (unlikeN ((lotsN n m).map (K17.rowI (woL ps (((k : Nat) : Int).toNat)))) = kindsN n ps m)
  rw [wo_map, h.unlike hn hm fun p hp' => hp p (wo_mem hp')]
theorem Pm.cnt (h : Pm n pl) (hp : ∀ p ∈ ps, LotG n p) {l : PyData} (hl : LotG n l) : cnt (ps.map (movedD pl)) ts (movedD pl l) = cnt ps ts l := by
  unfold K17.cnt
  rw [h.ansL hp hl]
/-- the lot of a pair by other numbers -/
def mvP (pl : List Nat) : PyData → PyData
  | .tuple [l, x] => .tuple [movedD pl l, x]
  | _ => .none
theorem Pm.lotsC (h : Pm n pl) (hn : n < 7) (hm : m < 4) (hp : ∀ p ∈ ps, LotG n p) : ((lotsC n ps ts m sl).map (movedD pl)).Perm (lotsC n (ps.map (movedD pl)) ts m sl) := by
  unfold K17.lotsC
  refine List.Perm.trans ?_ ((h.lots hn hm).filter _)
  rw [List.filter_map]
  refine List.Perm.of_eq (congrArg _ (List.filter_congr fun l hl => ?_))
  show decide (K17.cnt ps ts l ≤ sl) = decide (K17.cnt (ps.map (movedD pl)) ts (movedD pl l) ≤ sl)
  rw [h.cnt hp (lots_good hl)]
theorem could_eq : couldL n ps ts m sl = (lotsC n ps ts m sl).map (pairV ps ts) := rfl
theorem lotsC_good {l : PyData} (h : l ∈ lotsC n ps ts m sl) : LotG n l := lots_good (List.mem_filter.mp h).1
theorem Pm.could (h : Pm n pl) (hn : n < 7) (hm : m < 4) (hp : ∀ p ∈ ps, LotG n p) : ((couldL n ps ts m sl).map (mvP pl)).Perm (couldL n (ps.map (movedD pl)) ts m sl) := by
  rw [could_eq, could_eq]
  refine List.Perm.trans (List.Perm.of_eq ?_) ((h.lotsC hn hm hp).map _)
  rw [List.map_map, List.map_map]
  refine List.map_congr_left fun l hl => ?_
  show PyData.tuple [movedD pl l, .int (K17.cnt ps ts l)] = .tuple [movedD pl l, .int (K17.cnt (ps.map (movedD pl)) ts (movedD pl l))]
  rw [h.cnt hp (lotsC_good hl)]
/-! sure -/
theorem Pm.inLot (h : Pm n pl) {j : Nat} (hj : j < n) {l : PyData} (hl : LotG n l) : inLot (.int (piN pl j : Nat)) (movedD pl l) = inLot (.int j) l := by
  obtain ⟨b, rfl, gb⟩ := hl
  rw [movedD_lot]
  show memD _ _ = memD _ _
  rw [mem_int, mem_int]
  refine decide_eq_decide.mpr ⟨fun hm => ?_, fun hm => mv_mem.mpr ⟨j, hm, rfl⟩⟩
  obtain ⟨i, hi, e⟩ := mv_mem.mp hm
  rw [← h.inj (gb.2 i hi) hj e]
  exact hi
theorem Pm.have (h : Pm n pl) {j : Nat} (hj : j < n) {ls ls' : List PyData} (hl : ∀ l ∈ ls, LotG n l) (hp : (ls.map (movedD pl)).Perm ls') : haveN (.int (piN pl j : Nat)) ls' = haveN (.int j) ls := by
  unfold haveN
  rw [← (hp.filter _).length_eq, List.filter_map, List.length_map]
  exact congrArg List.length (List.filter_congr fun l hl' => h.inLot hj (hl l hl'))
theorem pick_rng' {n : Nat} (g : PyData → Bool) : (rng n).filter g = ((List.range n).filter fun j => g (.int (j : Nat))).map fun (j : Nat) => PyData.int j := by
  show ((List.range n).map fun (j : Nat) => PyData.int j).filter g = _
  rw [List.filter_map]
  rfl
theorem filter_good {n : Nat} (g : Nat → Bool) : GoodJ n ((List.range n).filter g) := ⟨(List.pairwise_lt_range).filter _, fun j hj => List.mem_range.mp (List.mem_filter.mp hj).1⟩
theorem Pm.pick (h : Pm n pl) {g g' : PyData → Bool} (e : ∀ j, j < n → g' (.int (piN pl j : Nat)) = g (.int j)) : (rng n).filter g' = (mv pl ((List.range n).filter fun j => g (.int (j : Nat)))).map fun (j : Nat) => PyData.int j := by
  rw [pick_rng']
  congr 1
  refine rise_eq (filter_good _).1 (h.good (filter_good _)).1 fun k => ?_
  rw [List.mem_filter, List.mem_range, mv_mem]
  constructor
  · rintro ⟨hk, hg⟩
    obtain ⟨j, hj, rfl⟩ := h.sur hk
    exact ⟨j, List.mem_filter.mpr ⟨List.mem_range.mpr hj, by rw [← e j hj]; exact hg⟩, rfl⟩
  · rintro ⟨j, hj, rfl⟩
    obtain ⟨h1, h2⟩ := List.mem_filter.mp hj
    have hj := List.mem_range.mp h1
    exact ⟨h.plt hj, by rw [e j hj]; exact h2⟩
end
end
end K17

namespace K17
open PySem PySem.Spec L2 Dv DvC DvT
open PyProof.Rows hiding St
section
variable {P : Program} {w : World} {K : PySem.W.Frag} {mg : Str → Option Value} {base : Heap} {T : List (Addr × Str)}
/-! shares by other numbers -/
def prodI : List Int → Int
  | [] => 1
  | a :: r => a * prodI r
theorem prod_perm {a b : List Int} (h : a.Perm b) : prodI a = prodI b := by
  induction h with
  | nil => rfl
  | cons x _ ih => show x * prodI _ = x * prodI _; rw [ih]
  | swap x y l => show y * (x * prodI l) = x * (y * prodI l); rw [← Int.mul_assoc, Int.mul_comm y x, Int.mul_assoc]
  | trans _ _ h1 h2 => rw [h1, h2]
theorem sum_perm {a b : List Int} (h : a.Perm b) : a.sum = b.sum := by
  induction h with
  | nil => rfl
  | cons x _ ih => rw [List.sum_cons, List.sum_cons, ih]
  | swap x y l => rw [List.sum_cons, List.sum_cons, List.sum_cons, List.sum_cons]; omega
  | trans _ _ h1 h2 => rw [h1, h2]
theorem lotW_prod {l : List PyData} : ∀ {cs : List Int} {i : Nat} {w : Int}, lotW l i w cs = w * prodI ((List.range cs.length).map fun k => if hasD l (i + k) = true then cs.getD k 0 else 100 - cs.getD k 0)
  | [], i, w => (Int.mul_one w).symm
  | c :: r, i, w => by
    show lotW l (i + 1) (w * (if hasD l i = true then c else 100 - c)) r = _
    rw [lotW_prod, List.length_cons, List.range_succ_eq_map, List.map_cons, List.map_map]
    show _ = w * ((if hasD l (i + 0) = true then c else 100 - c) * prodI _)
    rw [Int.mul_assoc, Nat.add_zero]
    congr 2
    congr 1
    refine List.map_congr_left fun k _ => ?_
    show (if hasD l (i + 1 + k) = true then r.getD k 0 else 100 - r.getD k 0) = (if hasD l (i + (k + 1)) = true then r.getD k 0 else 100 - r.getD k 0)
    rw [show i + 1 + k = i + (k + 1) by omega]
theorem hasD_lot (js : List Nat) (k : Nat) : hasD (lotL (lotD js)) k = decide (k ∈ js) := mem_int js
def facN (js : List Nat) (cs : List Int) (k : Nat) : Int := if k ∈ js then cs.getD k 0 else 100 - cs.getD k 0
theorem lotW_fac (js : List Nat) (cs : List Int) : lotW (lotL (lotD js)) 0 1 cs = prodI ((List.range cs.length).map (facN js cs)) := by
  rw [lotW_prod, Int.one_mul]
  congr 1
  refine List.map_congr_left fun k _ => ?_
  unfold facN
  rw [Nat.zero_add, hasD_lot]
  by_cases h : k ∈ js
  · rw [if_pos h, if_pos (decide_eq_true h)]
  · rw [if_neg h, if_neg (by simpa using h)]
def posN (pl : List Nat) (k : Nat) : Nat := pl.idxOf k
def turnN (n : Nat) (pl : List Nat) (cs : List Int) : List Int := (List.range n).map fun k => cs.getD (posN pl k) 0
section
variable {n m : Nat} {pl : List Nat} {ps ts : List PyData} {cs : List Int} {wr : Int}
theorem Pm.pos (h : Pm n pl) {k : Nat} (hk : k < n) : posN pl k < n ∧ piN pl (posN pl k) = k := by
  have hl : posN pl k < pl.length := List.idxOf_lt_length_of_mem (h.all hk)
  refine ⟨by rw [← h.len]; exact hl, ?_⟩
  unfold piN
  rw [List.getD_eq_getElem?_getD, List.getElem?_eq_getElem hl]
  exact List.getElem_idxOf hl
theorem Pm.pos_pi (h : Pm n pl) {j : Nat} (hj : j < n) : posN pl (piN pl j) = j := h.inj (h.pos (h.plt hj)).1 hj (h.pos (h.plt hj)).2
theorem Pm.range (h : Pm n pl) : ((List.range n).map (piN pl)).Perm (List.range n) := by
  refine (List.perm_ext_iff_of_nodup (map_nodup List.nodup_range fun a ha b hb e => h.inj (List.mem_range.mp ha) (List.mem_range.mp hb) e) List.nodup_range).mpr fun k => ?_
  rw [List.mem_map, List.mem_range]
  constructor
  · rintro ⟨j, hj, rfl⟩
    exact h.plt (List.mem_range.mp hj)
  · intro hk
    obtain ⟨j, hj, e⟩ := h.sur hk
    exact ⟨j, List.mem_range.mpr hj, e⟩
theorem turn_get {k : Nat} (hk : k < n) : (turnN n pl cs).getD k 0 = cs.getD (posN pl k) 0 := by
  unfold turnN
  rw [List.getD_eq_getElem?_getD, List.getElem?_map, List.getElem?_range hk]
  rfl
theorem turn_len : (turnN n pl cs).length = n := by unfold turnN; rw [List.length_map, List.length_range]
theorem Pm.fac (h : Pm n pl) {js : List Nat} (g : GoodJ n js) {j : Nat} (hj : j < n) : facN (mv pl js) (turnN n pl cs) (piN pl j) = facN js cs j := by
  unfold facN
  rw [turn_get (h.plt hj), h.pos_pi hj]
  have e : piN pl j ∈ mv pl js ↔ j ∈ js := by
    rw [mv_mem]
    exact ⟨fun ⟨i, hi, e⟩ => by rw [← h.inj (g.2 i hi) hj e]; exact hi, fun hi => ⟨j, hi, rfl⟩⟩
  by_cases hm : j ∈ js
  · rw [if_pos hm, if_pos (e.mpr hm)]
  · rw [if_neg hm, if_neg fun z => hm (e.mp z)]
theorem Pm.lotW (h : Pm n pl) (hc : cs.length = n) {l : PyData} (hl : LotG n l) : lotW (lotL (movedD pl l)) 0 1 (turnN n pl cs) = lotW (lotL l) 0 1 cs := by
  obtain ⟨js, rfl, g⟩ := hl
  rw [movedD_lot, lotW_fac, lotW_fac, turn_len, hc]
  rw [← prod_perm (h.range.map (facN (mv pl js) (turnN n pl cs))), List.map_map]
  congr 1
  exact List.map_congr_left fun j hj => h.fac g (List.mem_range.mp hj)
theorem Pm.wt (h : Pm n pl) (hc : cs.length = n) (hp : ∀ p ∈ ps, LotG n p) {l : PyData} (hl : LotG n l) : wtW (ps.map (movedD pl)) ts (turnN n pl cs) wr (movedD pl l) = wtW ps ts cs wr l := by
  unfold wtW
  rw [h.lotW hc hl, h.ansL hp hl]
def mvR (pl : List Nat) (p : PyData × Int) : PyData × Int := (movedD pl p.1, p.2)
theorem Pm.rows (h : Pm n pl) (hn : n < 7) (hm : m < 4) (hc : cs.length = n) (hp : ∀ p ∈ ps, LotG n p) : ((rowsW n ps ts cs wr m).map (mvR pl)).Perm (rowsW n (ps.map (movedD pl)) ts (turnN n pl cs) wr m) := by
  unfold rowsW
  refine List.Perm.trans (List.Perm.of_eq ?_) (((h.lots hn hm).map _).filter _)
  rw [List.map_map, List.filter_map, List.filter_map, List.map_map]
  have e1 : ∀ l ∈ lotsN n m, wtW (ps.map (movedD pl)) ts (turnN n pl cs) wr (movedD pl l) = wtW ps ts cs wr l := fun l hl => h.wt hc hp (lots_good hl)
  have e2 : (lotsN n m).filter ((fun p : PyData × Int => decide (0 < p.2)) ∘ ((fun l => (l, wtW (ps.map (movedD pl)) ts (turnN n pl cs) wr l)) ∘ movedD pl)) = (lotsN n m).filter ((fun p : PyData × Int => decide (0 < p.2)) ∘ fun l => (l, wtW ps ts cs wr l)) :=
    List.filter_congr fun l hl => by
      show decide (0 < wtW (ps.map (movedD pl)) ts (turnN n pl cs) wr (movedD pl l)) = decide (0 < wtW ps ts cs wr l)
      rw [e1 l hl]
  rw [e2]
  refine List.map_congr_left fun l hl => ?_
  show (movedD pl l, wtW ps ts cs wr l) = (movedD pl l, wtW (ps.map (movedD pl)) ts (turnN n pl cs) wr (movedD pl l))
  rw [e1 l (List.mem_filter.mp hl).1]
theorem rows_good {q : PyData × Int} (h : q ∈ rowsW n ps ts cs wr m) : LotG n q.1 := by
  obtain ⟨l, hl, rfl⟩ := List.mem_map.mp (List.mem_filter.mp h).1
  exact lots_good hl
theorem sumW_perm {a b : List (PyData × Int)} (h : (a.map (mvR pl)).Perm b) : sumW b = sumW a := by
  unfold sumW
  rw [← sum_perm (h.map _), List.map_map]
  rfl
theorem rows_nil {a b : List (PyData × Int)} (h : (a.map (mvR pl)).Perm b) (e : a ≠ []) : b ≠ [] := fun z => e (by
  subst z
  exact List.map_eq_nil_iff.mp h.eq_nil)
theorem Pm.shares {a b : List (PyData × Int)} (h : (a.map (mvR pl)).Perm b) : ((sharesL a).map (mvP pl)).Perm (sharesL b) := by
  unfold sharesL
  rw [List.map_map, sumW_perm h]
  refine ((List.mergeSort_perm a _).map _).trans (List.Perm.trans ?_ ((List.mergeSort_perm b _).symm.map _))
  refine List.Perm.trans (List.Perm.of_eq ?_) (h.map _)
  rw [List.map_map]
  rfl
theorem Pm.hasR (h : Pm n pl) {t : Nat} (ht : t < n) {q : PyData × Int} (hq : LotG n q.1) : hasR t (mvR pl q) = hasR (posN pl t) q := by
  obtain ⟨l, x⟩ := q
  obtain ⟨js, e, g⟩ := hq
  have e : l = lotD js := e
  subst e
  show hasD (lotL (movedD pl (lotD js))) t = hasD (lotL (lotD js)) (posN pl t)
  rw [movedD_lot, hasD_lot, hasD_lot]
  obtain ⟨h1, h2⟩ := h.pos ht
  refine decide_eq_decide.mpr ?_
  rw [mv_mem]
  constructor
  · rintro ⟨i, hi, e⟩
    rw [← h.inj (g.2 i hi) h1 (by rw [e, h2])]
    exact hi
  · intro hi
    exact ⟨_, hi, h2⟩
def eachN (rs : List (PyData × Int)) (t : Nat) : PyData := fracD (sumW (rs.filter (K17.hasR t))) (sumW rs)
theorem each_eq (rs : List (PyData × Int)) : eachL n rs = (List.range n).map (eachN rs) := rfl
theorem Pm.each (h : Pm n pl) {a b : List (PyData × Int)} (hp : (a.map (mvR pl)).Perm b) (hg : ∀ q ∈ a, LotG n q.1) {t : Nat} (ht : t < n) : eachN b t = eachN a (posN pl t) := by
  unfold eachN
  rw [sumW_perm hp]
  congr 1
  refine sumW_perm (pl := pl) ?_
  refine List.Perm.trans (List.Perm.of_eq ?_) (hp.filter _)
  rw [List.filter_map]
  congr 1
  exact List.filter_congr fun q hq => (h.hasR ht (hg q hq)).symm
theorem Pm.prew (h : Pm n pl) (g : PreW n ps ts cs wr m) : PreW n (ps.map (movedD pl)) ts (turnN n pl cs) wr m := by
  refine ⟨h.goodp g.g, by rw [List.length_map]; exact g.tl, g.ta, turn_len, fun c hc => ?_, g.w0, g.m3⟩
  obtain ⟨k, hk, rfl⟩ := List.mem_map.mp hc
  have := (h.pos (List.mem_range.mp hk)).1
  refine g.ca _ ?_
  rw [List.getD_eq_getElem?_getD, List.getElem?_eq_getElem (by rw [g.cl]; exact this)]
  exact List.getElem_mem _
end
end
end K17

/-! sorted(e), no key, e a list of any data that are alike -/
namespace L2
open PySem PySem.Spec PySem.W PyProof.Rows LamX DvS
def selfD (d : PyData) : PyData := d
def rSortedA (K : PySem.W.Frag) : List V → Hp → VK → Prop := fun vs H Q => ∃ (a : Addr) (xs : List V) (ds : List PyData) (R : V → PyData → Prop), vs = [V.ref a] ∧ SqL K H a xs ∧ Paired (fun v d => R v d ∧ Dp K H v d) xs ds ∧ AllAlike (ds.map selfD) ∧ Sortable (ds.map selfD) ∧ (∀ d ∈ ds, d.depth ≤ 60) ∧
  ∀ (p : Addr) (out : List V), H p = none → Paired R out (ds.mergeSort (dataLe false selfD)) → Q (.ref p) (upd H p (.lst out))
section
variable {X : Cx}
theorem cr_sortedA (hu : X.A.units + 64 < cLine) : CallR X (.builtin "sorted") (rSortedA X.K) := by
  intro pins s σ H vs us Q I r h
  obtain ⟨a, xs, ds, R, rfl, hs, hP, hA, hS, hd, q⟩ := h
  obtain ⟨its, rv, pl, hz⟩ := I.list hs
  rw [Vals.ref1 r]
  have hE : EachIs (fun u (d : PyData) => ∃ v, RelV v u ∧ R v d ∧ Dp X.K H v d) its ds := each_ofG (R := fun v d => R v d ∧ Dp X.K H v d) (fun v u d z r => ⟨v, r, z⟩) hP rv
  have lT : ds.length = its.length := hE.length.symm
  have er : EachIs (fun v b => ∃ as, Reads s.heap v (selfD b) as) its ds := hE.mono fun u d ⟨v, r, hv, z⟩ => Dp.reads I d v u z r
  refine sorted_data (enc := selfD) (R := fun u (d : PyData) => ∃ v, RelV v u ∧ R v d ∧ Dp X.K H v d) pl.isList hE er hA hS (by rw [lT, ← rv.length]; exact hz) (fun d hd' => ?_) fun out ho hO => ?_
  · have := hd d hd'
    show _ + 2 + d.depth < _
    omega
  · obtain ⟨out', hp', hv'⟩ := back_ofG (R := R) (fun u d ⟨v, r, hv, z⟩ => ⟨v, hv, r⟩) hO
    have hl1 : out'.length = xs.length := by
      rw [hv'.length, ho, lT, ← rv.length]
    obtain ⟨ep, he'⟩ := PyProof.Rows.sortedAll_at s.heap its out.toArray
    exact ⟨.ref _, upd H (s.heap.objs.size + 1) (.lst out'), I.laid (t' := s.toks) (fun _ _ => PyProof.Rows.sortedAll_old) (Nat.le_succ _) ⟨by rw [hl1]; exact hz, out, ep, hv', he'⟩, rfl, q _ _ (I.hok.fresh (Nat.le_succ _)) hp'⟩
end
end L2
namespace Dv
open PySem PySem.Spec PySem.W L2 LamX DvS
open PyProof.Rows hiding St
section
variable {K : PySem.W.Frag} {T : List (Addr × Str)} {W : Wd K T} {G : Dv.Ctx} {te : TE}
theorem dall_pair {H : Hp} {K' : PySem.W.Frag} : ∀ {xs : List V} {ds : List PyData}, DAll W H xs ds → Paired (fun v d => D W H v d ∧ Dp K' H v d) xs ds
  | _, _, .nil => .nil
  | _, _, .cons a t => .cons ⟨a, a.dp⟩ (dall_pair t)
theorem pair_dall {H : Hp} : ∀ {xs : List V} {ds : List PyData}, Paired (D W H) xs ds → DAll W H xs ds
  | _, _, .nil => .nil
  | _, _, .cons a t => .cons a (pair_dall t)
/-- sorted(e) -/
theorem el_sortA {K' : PySem.W.Frag} {ds : List PyData} (h : E K T te G (· = .list ds)) (hA : AllAlike (ds.map selfD)) (hS : Sortable (ds.map selfD)) (hd : ∀ d ∈ ds, d.depth ≤ 60) : EL K T (tCB (rSortedA K') (tCons te tNil)) G (· = ds.mergeSort (dataLe false selfD)) := fun W σ H s j Q q => h W σ H s j _ fun v d H1 e1 j1 dv p => by
  subst p
  obtain ⟨a, xs, rfl, nx, ha, al⟩ := dv.lst_inv
  exact ⟨a, xs, ds, D W H1, rfl, SqL.of ha, dall_pair al, hA, hS, hd, fun p out hp ho => q p out _ _ ((Fr.new hp).pre e1) (j_new j1 hp) (new_ne j1 hp) upd_same ((pair_dall ho).mono (.new hp)) rfl⟩
end
/-! what it comes to -/
theorem sort_perm {a b : List PyData} (h : a.Perm b) (as : ∀ x ∈ a, ∀ y ∈ a, keyToks x = keyToks y → x = y) : a.mergeSort (dataLe false selfD) = b.mergeSort (dataLe false selfD) := by
  have TL : TotalLe (dataLe (β := PyData) false selfD) := sortLe_total _ _ _
  refine List.Perm.eq_of_pairwise (le := fun x y => dataLe false selfD x y = true) (fun x y hx hy l1 l2 => ?_) (sort_pairwise TL a) (sort_pairwise TL b) ((List.mergeSort_perm a _).trans (h.trans (List.mergeSort_perm b _).symm))
  have hx' := (List.mergeSort_perm a (dataLe false selfD)).mem_iff.mp hx
  have hy' := h.mem_iff.mpr ((List.mergeSort_perm b (dataLe false selfD)).mem_iff.mp hy)
  refine as x hx' y hy' ?_
  have l1 : (!PyProof.Rows.lexLt PyProof.Rows.itemOrd (keyToks y) (keyToks x)) = true := l1
  have l2 : (!PyProof.Rows.lexLt PyProof.Rows.itemOrd (keyToks x) (keyToks y)) = true := l2
  exact (PyProof.Rows.listOrd PyProof.Rows.itemOrd).total _ _ (by simpa using l2) (by simpa using l1)
theorem tok_ints : ∀ {a b : List Nat} {r s : List (Int ⊕ List Nat)}, keyToksAll (a.map fun (j : Nat) => PyData.int j) ++ r = keyToksAll (b.map fun (j : Nat) => PyData.int j) ++ s → a = b ∧ r = s
  | [], [], r, s, h => ⟨rfl, (List.cons.inj (show Sum.inl 0 :: r = Sum.inl 0 :: s from h)).2⟩
  | [], y :: b, r, s, h => by
    have z := (List.cons.inj (show Sum.inl (0 : Int) :: r = Sum.inl (1 : Int) :: _ from h)).1
    exact absurd (Sum.inl.inj z) (by decide)
  | x :: a, [], r, s, h => by
    have z := (List.cons.inj (show Sum.inl (1 : Int) :: _ = Sum.inl (0 : Int) :: s from h)).1
    exact absurd (Sum.inl.inj z) (by decide)
  | x :: a, y :: b, r, s, h => by
    have z := (List.cons.inj (show Sum.inl (1 : Int) :: Sum.inl (x : Int) :: (keyToksAll (a.map fun (j : Nat) => PyData.int j) ++ r) = Sum.inl (1 : Int) :: Sum.inl (y : Int) :: (keyToksAll (b.map fun (j : Nat) => PyData.int j) ++ s) from h)).2
    obtain ⟨z1, z2⟩ := List.cons.inj z
    obtain ⟨rfl, e⟩ := tok_ints z2
    have := Sum.inl.inj z1
    exact ⟨by rw [show x = y by omega], e⟩
theorem tok_pair {a b : List Nat} {x y : PyData} (h : keyToks (.tuple [lotD a, x]) = keyToks (.tuple [lotD b, y])) : a = b ∧ keyToks x ++ [Sum.inl 0] = keyToks y ++ [Sum.inl 0] := by
  have z := (List.cons.inj (show Sum.inl (1 : Int) :: (keyToksAll (a.map fun (j : Nat) => PyData.int j) ++ (Sum.inl 1 :: (keyToks x ++ [Sum.inl 0]))) = Sum.inl (1 : Int) :: (keyToksAll (b.map fun (j : Nat) => PyData.int j) ++ (Sum.inl 1 :: (keyToks y ++ [Sum.inl 0]))) from h)).2
  obtain ⟨e, z⟩ := tok_ints z
  exact ⟨e, (List.cons.inj z).2⟩
end Dv

/-! () * 2 -/
namespace L2
open PySem PySem.Spec PyProof.Rows
theorem tuple_mulE (l : Addr) (n : Nat) (dd : Option Addr) (sl : Array (Option Value)) (u : Tok) : Meets (Builtin.«tuple.__mul__» { pos := [Value.ref l, Value.int 2 u] }) fun _ R s => s.heap.get? l = some { cls := .type "tuple", dict := dd, data := .seq #[] n, slots := sl } ∧ R (.ok (.ret (.ref l))) s := by
  intro prog w A R s ⟨h, r⟩
  refine wpAny_bind ?_
  have e : asIndex (Value.int 2 u) = pure 2 := rfl
  rw [e]
  refine wpAny_pure ?_
  dsimp only
  rw [if_neg (by decide)]
  refine wpAny_bind (wpAny_tupleItemsOf h rfl ?_)
  rw [if_pos (by simp)]
  refine wpAny_bind ?_
  unfold Builtin.Tuple.tupleIsExact
  refine wpAny_bind ?_
  refine wpAny_typeOf (T := "tuple") ?_ ?_
  · exact ⟨_, h, rfl⟩
  refine wpAny_pure ?_
  rw [if_pos (by decide)]
  refine wpAny_bind (wpAny_rule ?_)
  exact wpAny_pure r
def rRepE (K : PySem.W.Frag) : R2 := fun x y H Q => ∃ l, x = .ref l ∧ SqT K H l [] ∧ y = .int 2 ∧ Q (.ref l) H
theorem op_repE {X : Cx} : OpR X (binaryOp .Mult) (rRepE X.K) := by
  intro pins s σ H x y v u Q I rx ry h
  obtain ⟨l, rfl, hs, rfl, q⟩ := h
  obtain rfl : v = Value.ref l := rx
  obtain ⟨its, rv, ht, hz⟩ := I.tuple hs
  cases rv
  have ht' := ht
  obtain ⟨o, ho, hc, n, hd⟩ := ht
  have eo : o = { cls := .type "tuple", dict := o.dict, data := .seq #[] n, slots := o.slots } := by
    cases o
    simp only at hc hd
    subst hc hd
    rfl
  obtain ⟨t, rfl⟩ := ry
  refine wpAny_binaryOp_repeat_ref (T := "tuple") (U := "int") (id := "tuple.__mul__") (idr := "int.__rmul__") (by decide) ⟨o, ho, hc⟩ (fun _ => rfl) noFill_tuple_mul PySem.F.fills_int_mul PySem.F.slot_int_rmul repeat_tuple (ix := .builtin "int.__index__") PySem.F.slot_int_index.lookup ?_
  refine call_meets (T := "int") (B := Builtin.«int.__rmul__») PySem.F.slot_int_rmul rfl PySem.F.entry_int_rmul (PySem.F.args_int_rmul_2 _ _) (int_rmul_tuple 2 t l #[] n o.dict o.slots) ⟨by rw [← eo]; exact ho, rfl, ⟨o, ho, hc⟩, ?_⟩
  refine call_meets (T := "tuple") (B := Builtin.«tuple.__mul__») PySem.F.slot_tuple_mul ⟨o, ho, hc⟩ PySem.F.entry_tuple_mul (PySem.F.args_tuple_mul_2 _ _) (tuple_mulE l n o.dict o.slots t) ⟨by rw [← eo]; exact ho, ?_⟩
  exact ⟨.ref l, H, I, rfl, q⟩
/-- t * k, t may be () where k is 2 -/
def rRepB (K : PySem.W.Frag) : R2 := fun x y H Q => rRepA K x y H Q ∨ rRepE K x y H Q
theorem op_repB {X : Cx} : OpR X (binaryOp .Mult) (rRepB X.K) := fun pins s σ H x y v u Q I rx ry h => h.elim (op_repA pins s σ H x y v u Q I rx ry) (op_repE pins s σ H x y v u Q I rx ry)
end L2
namespace Dv
open PySem PySem.Spec L2
open PyProof.Rows hiding St
section
variable {K : PySem.W.Frag} {T : List (Addr × Str)} {G : Ctx}
/-- t * 2 -/
theorem e_rep2 {ta tb : TE} {ds : List PyData} (ha : E K T ta G (· = .tuple ds)) (hb : E K T tb G (· = .int 2)) (hl : ds.length ≤ 1000) : E K T (tOp (rRepB K) ta tb) G (· = .tuple (ds ++ ds)) := fun W σ H s j Q q => by
  by_cases h0 : ds = []
  · subst h0
    refine ha W σ H s j _ fun v d H1 e1 j1 dv pv => hb W σ H1 (s.mono e1) j1 _ fun u d2 H2 e2 j2 du pu => ?_
    subst pv pu
    obtain ⟨a, xs, rfl, nx, hx, al⟩ := (dv.mono e2).tup_inv
    cases du.int_inv
    cases al
    exact .inr ⟨a, rfl, SqT.of hx, rfl, q _ _ H2 (e1.trans e2) j2 (dv.mono e2) rfl⟩
  · refine ha W σ H s j _ fun v d H1 e1 j1 dv pv => hb W σ H1 (s.mono e1) j1 _ fun u d2 H2 e2 j2 du pu => .inl ?_
    subst pv pu
    obtain ⟨a, xs, rfl, nx, hx, al⟩ := (dv.mono e2).tup_inv
    cases du.int_inv
    have hne : xs ≠ [] := fun z => h0 ((al.nil_iff).mp z)
    refine .inl ⟨a, 2, xs, rfl, rfl, SqT.of hx, hne, by omega, by omega, by rw [al.length]; exact hl, fun p hp => ?_⟩
    refine q _ _ _ ((e1.trans e2).trans (.new hp)) (j_new j2 hp) (.tup (new_ne j2 hp) upd_same ((al.append al).mono (.new hp))) rfl |> fun z => ?_
    have ez : (List.replicate (Int.toNat 2) xs).flatten = xs ++ xs := by
      show (List.replicate 2 xs).flatten = xs ++ xs
      simp [List.replicate_succ]
    rw [ez]
    exact z
end
end Dv

namespace K17
open PySem PySem.Spec L2 Dv DvC DvT
open PyProof.Rows hiding St
section
variable {P : Program} {w : World} {K : PySem.W.Frag} {mg : Str → Option Value} {base : Heap} {T : List (Addr × Str)}
theorem sc_check_lot : FnScope ["lot", "things"] ["lot", "things"] (defScope s_check_lot) := ⟨rfl, rfl, rfl, by decide +kernel, rfl, by decide +kernel, by decide +kernel⟩
abbrev sx_check_lot (K : PySem.W.Frag) (T : List (Addr × Str)) (CL : Addr) : Sp := spX K T (fun os => ∃ d n, os = dats [d, .int n]) (fun os r => ∃ d n, os = dats [d, .int n] ∧ isLotD n d = true ∧ r = .none) (fun os x => ∃ d n, os = dats [d, .int n] ∧ isLotD n d = false ∧ x = ⟨CL, none⟩)
theorem ok_check_lot {f f1 CL : Addr} {fd fd1 : FuncData} (Fn : Fun K "check_lot" "check_lot" s_check_lot f fd) (F1 : FnOk P w K mg base CX0 2 f1 fd1 ["value", "things"] (sp_is_lot K T)) (k1 : PySem.W.keepIn K (.ref f1) = true) (b1 : Binds K fd1 ["value", "things"] []) (m1 : mg "is_lot" = some (.ref f1)) (L : ClsN K mg "BadLot" CL) :
    FnOk P w K mg base (L2.CX P w) 3 f fd ["lot", "things"] (sx_check_lot K T CL) := by
  refine ok_defX Fn sc_check_lot (fun os ⟨_, _, e⟩ => by rw [e]; rfl) fun cdv A outer s H E' hr => ?_
  refine ⟨_, (pss_one (ps_if (pt_not (pt_val (pe_call F1 hr (by rfl) m1 k1 b1 .nil pass0 (pa_cons (pv 0) (pa_cons (pv 1) pa_nil)))))
    (pss_one (ps_raise rfl (takes_of (E := E') rfl rfl rfl rfl) (pmk_own PySem.F.excBase_ValueError L.q L.m L.k (raises_own L.s L.t) (by rfl)))) pss_nil)), ?_⟩
  rintro os ⟨d, n, rfl⟩
  exact sx_if (t_not (t_B (b := isLotD n d) (E.is (e_callD (F := F_is_lot) (ds := [d, .int n]) (a_cons e_var (a_cons e_var a_nil)) ⟨_, _, rfl⟩) rfl)))
    (fun h => sx_raise (mx_own ⟨d, n, rfl, by simpa using h, rfl⟩)) fun h => sx_of (s_next ⟨d, n, rfl, by simpa using h, rfl⟩)
theorem sc_answers : FnScope ["plan", "lot", "things", "probes"] ["plan", "lot"] (defScope s_answers) := ⟨rfl, rfl, rfl, by decide +kernel, rfl, by decide +kernel, by decide +kernel⟩
theorem lot_tup {n : Nat} {d : PyData} (h : isLotD n d = true) (hn : n ≤ 10) : ∃ l, d = .tuple l ∧ FlatT l := by
  cases d with
  | tuple xs =>
    obtain ⟨a, b, _⟩ := lotGo_ok (show lotGo n 0 xs = true from h)
    exact ⟨xs, rfl, a, by omega⟩
  | _ => cases h
abbrev sx_answers (K : PySem.W.Frag) (T : List (Addr × Str)) (CL : Addr) : Sp := spX K T (fun os => ∃ n ps d, os = dats [.tuple [.int (n : Nat), .tuple ps], d] ∧ GoodP n ps)
  (fun os r => ∃ n ps d, os = dats [.tuple [.int (n : Nat), .tuple ps], d] ∧ isLotD n d = true ∧ r = .tuple (ps.map fun p => ansD p d)) (fun os x => ∃ n ps d, os = dats [.tuple [.int (n : Nat), .tuple ps], d] ∧ isLotD n d = false ∧ x = ⟨CL, none⟩)
theorem ok_answers {f f1 f2 f3 CL : Addr} {fd fd1 fd2 fd3 : FuncData} (Fn : Fun K "answers" "answers" s_answers f fd) (F1 : FnOk P w K mg base CX0 4 f1 fd1 ["plan"] (sp_check_plan K T)) (k1 : PySem.W.keepIn K (.ref f1) = true) (b1 : Binds K fd1 ["plan"] []) (m1 : mg "check_plan" = some (.ref f1))
    (F2 : FnOk P w K mg base (L2.CX P w) 3 f2 fd2 ["lot", "things"] (sx_check_lot K T CL)) (k2 : PySem.W.keepIn K (.ref f2) = true) (b2 : Binds K fd2 ["lot", "things"] []) (m2 : mg "check_lot" = some (.ref f2))
    (F3 : FnOk P w K mg base CX0 3 f3 fd3 ["probes", "lot"] (sp_answers_of K T)) (k3 : PySem.W.keepIn K (.ref f3) = true) (b3 : Binds K fd3 ["probes", "lot"] []) (m3 : mg "answers_of" = some (.ref f3)) :
    FnOk P w K mg base (L2.CX P w) 5 f fd ["plan", "lot"] (sx_answers K T CL) := by
  refine ok_defX Fn sc_answers (fun os ⟨_, _, _, e, _⟩ => by rw [e]; rfl) fun cdv A outer s H E' hr => ?_
  have hr1 : Room 3 (A.deeper (envOfC "answers" (defScope s_answers) s.heap.objs.size f cdv)) := hr.mono (by decide)
  refine ⟨_, (pss_cons (ps_expr (pe_call F1 hr (by rfl) m1 k1 b1 .nil pass0 (pa_cons (pv 0) pa_nil)))
  (pss_cons (ps_asg (pv 0) (pg_tup rfl (pgs_cons (pg_name (i := 2) sc_answers.nd rfl (by first | exact Or.inl rfl | exact Or.inr rfl)) (pgs_cons (pg_name (i := 3) sc_answers.nd rfl (by first | exact Or.inl rfl | exact Or.inr rfl)) pgs_nil))))
  (pss_cons (ps_expr (pe_call F2 hr1 (by rfl) m2 k2 b2 .nil (passes_call (takes_of (E := E') rfl rfl rfl rfl) fun _ _ _ _ h => h) (pa_cons (pv 1) (pa_cons (pv 2) pa_nil))))
  (pss_one (ps_ret (pe_call F3 hr1 (by rfl) m3 k3 b3 .nil pass0 (pa_cons (pv 3) (pa_cons (pv 1) pa_nil)))))))), ?_⟩
  rintro os ⟨n, ps, d, rfl, hg⟩
  refine sx_seq (sx_of (s_drop (e_callD (F := F_none) (ds := [.tuple [.int n, .tuple ps]]) (a_cons e_var a_nil) ⟨n, ps, rfl, hg⟩) ?_))
  refine sx_seq (sx_of (s_asgTg e_var (tg_pair (vs := [2, 3]) (by decide) (by decide)) ?_))
  refine sx_seq (sx_drop (ex_call (P := fun _ => isLotD n d = true) (os := dats [d, .int n]) (a_cons e_var (a_cons e_var a_nil)) ⟨d, n, rfl⟩ (fun r ⟨d', n', e, h, _⟩ => ?_) (fun x ⟨d', n', e, h, ex⟩ => ?_)) fun _ hl => ?_)
  · have z := dats_inj e
    cases z
    exact h
  · have z := dats_inj e
    cases z
    exact ⟨n, ps, d, rfl, h, ex⟩
  · obtain ⟨l, rfl, hf⟩ := lot_tup hl hg.n10
    exact sx_of (s_ret (e_callD (F := F_answers_of) (ds := [.tuple ps, .tuple l]) (a_cons e_var (a_cons e_var a_nil)) ⟨ps, l, rfl, Nat.le_trans hg.len (by decide), good_flat hg, hf⟩) ⟨n, ps, _, rfl, hl, rfl⟩)

def F_answers : List PyData → PyData
  | [.tuple [_, .tuple ps], l] => .tuple (ps.map fun p => ansD p l)
  | _ => .none
abbrev sp_answers (K : PySem.W.Frag) (T : List (Addr × Str)) : Sp := spD K T (fun ds => ∃ (n : Nat) (ps : List PyData) (d : PyData), ds = [.tuple [.int n, .tuple ps], d] ∧ GoodP n ps ∧ isLotD n d = true) F_answers
theorem gd_answersL {f CL : Addr} {fd : FuncData} {k : Nat} (F : FnOk P w K mg base (L2.CX P w) k f fd ["plan", "lot"] (sx_answers K T CL)) : FnOk P w K mg base CX0 k f fd ["plan", "lot"] (sp_answers K T) :=
  fn_goodD F fun ds ⟨n, ps, d, e, hg, hl⟩ => by
    subst e
    refine ⟨⟨n, ps, d, rfl, hg⟩, fun r ⟨n', ps', d', z, _, er⟩ => ?_, fun x ⟨n', ps', d', z, hk, _⟩ => ?_⟩
    · have z := dats_inj z
      simp only [List.cons.injEq, PyData.tuple.injEq] at z
      obtain ⟨⟨_, rfl, _⟩, rfl, _⟩ := z
      exact er
    · have z := dats_inj z
      simp only [List.cons.injEq, PyData.tuple.injEq, PyData.int.injEq] at z
      obtain ⟨⟨z1, rfl, _⟩, rfl, _⟩ := z
      obtain rfl : n = n' := by omega
      rw [hl] at hk
      cases hk
theorem sc_moved : FnScope ["probes", "by", "probe", "thing"] ["probes", "by"] (defScope s_moved) := ⟨rfl, rfl, rfl, by decide +kernel, rfl, by decide +kernel, by decide +kernel⟩
def upD (k : Int) : PyData → PyData
  | .tuple xs => .tuple (xs.map fun d => match d with | .int i => .int (i + k) | d => d)
  | d => d
def IntU (d : PyData) : Prop := ∃ xs, d = .tuple xs ∧ xs.length ≤ 1000 ∧ ∀ x ∈ xs, ∃ i, x = .int i
def F_moved : List PyData → PyData
  | [.tuple ps, .int k] => .tuple (ps.map (upD k))
  | _ => .none
abbrev sp_moved (K : PySem.W.Frag) (T : List (Addr × Str)) : Sp := spD K T (fun ds => ∃ ps k, ds = [.tuple ps, .int k] ∧ ps.length ≤ 1000 ∧ ∀ p ∈ ps, IntU p) F_moved
theorem ok_moved {f : Addr} {fd : FuncData} (Fn : Fun K "moved" "moved" s_moved f fd) (X : Txt mg) : FnOk P w K mg base CX0 1 f fd ["probes", "by"] (sp_moved K T) := by
  refine ok_defD Fn sc_moved (fun ds ⟨_, _, e, _⟩ => by rw [e]; rfl) fun cdv A outer s H E' hr => ?_
  refine ⟨_, (pss_one (ps_ret (pe_callTy (r := rTupQ K) call_tuple_of (by rfl) X.tuple bt_tuple (pa_cons (pe_lc (te := tCB (rTupQ K) (tCons (tLc (iTup K (tVar 2)) (gName 3) tYes (tOp (rI0 fun i j => .int (i + j)) (tVar 3) (tVar 1)) [3]) tNil)) (own := [("probe", 2)]) rfl sc_moved.nd (pi_tup (pv 0)) (blkOk_by (N := ["probes", "by", "probe", "thing"]) (sc := defScope s_moved) (by decide +kernel)) (fun _ _ _ _ _ => (pg_name (i := 2) sc_moved.nd rfl (by first | exact Or.inl rfl | exact Or.inr rfl))) (fun _ _ _ _ _ => pts_nil)
    (fun _ _ _ _ _ => (pe_callTy (r := rTupQ K) call_tuple_of (by rfl) X.tuple bt_tuple (pa_cons (pe_lc (wi := iTup K (tVar 2)) (own := [("thing", 3)]) rfl sc_moved.nd (pi_tup (pv 2)) (by exact blkOk_by (by rfl)) (fun _ _ _ _ _ => (pg_name (i := 3) sc_moved.nd rfl (by first | exact Or.inl rfl | exact Or.inr rfl))) (fun _ _ _ _ _ => pts_nil) (fun _ _ _ _ _ => (pe_op (r := rI0 fun i j => .int (i + j)) op_add (pv 3) (pv 1)))) pa_nil)))) pa_nil)))), ?_⟩
  rintro ds ⟨ps, k, rfl, hn, hp⟩
  refine s_ret (e_tupleL (a_cons (EL.is (el_lcM (vs := [2]) (upD k) (i_tup e_var) (fun d hd => ⟨_, tg_name (by decide), ?_⟩) (Nat.le_trans hn (by decide)))) a_nil)) rfl
  obtain ⟨xs, rfl, hx, hi⟩ := hp d hd
  refine E.is (e_tupleL (a_cons (EL.is (el_lcM (vs := [3]) (fun d => match d with | .int i => .int (i + k) | d => d) (i_tup e_var) (fun d hd => ⟨_, tg_name (by decide), ?_⟩) (Nat.le_trans hx (by decide)))) a_nil)) rfl
  obtain ⟨i, rfl⟩ := hi d hd
  exact e_add e_var e_var
theorem sc_beside : FnScope ["one", "other", "first", "its_probes", "second", "more_probes"] ["one", "other"] (defScope s_beside) := ⟨rfl, rfl, rfl, by decide +kernel, rfl, by decide +kernel, by decide +kernel⟩
theorem good_ints {n : Nat} {ps : List PyData} (hg : GoodP n ps) : ∀ p ∈ ps, IntU p := fun p hp => by
  have h := hg.all p hp
  cases p with
  | tuple xs =>
    have h' : (lotGo n 0 xs && decide ((0 : Int) < xs.length)) = true := h
    rw [Bool.and_eq_true] at h'
    obtain ⟨a, b, c⟩ := lotGo_ok h'.1
    have := hg.n10
    exact ⟨xs, rfl, by omega, fun x hx => ⟨_, (c x hx).choose_spec.1⟩⟩
  | _ => cases h
def besideX (n m : Nat) (ps qs : List PyData) : Option Int := if n + m > 10 then some (-1) else if ps.length + qs.length > 16 then some 16 else none
abbrev pre_beside (os : List Ob) (n m : Nat) (ps qs : List PyData) : Prop := os = dats [.tuple [.int n, .tuple ps], .tuple [.int m, .tuple qs]] ∧ GoodP n ps ∧ GoodP m qs
abbrev sx_beside (K : PySem.W.Frag) (T : List (Addr × Str)) (CP : Addr) : Sp := spX K T (fun os => ∃ n m ps qs, pre_beside os n m ps qs)
  (fun os r => ∃ n m ps qs, pre_beside os n m ps qs ∧ besideX n m ps qs = none ∧ r = .tuple [.int ((n : Int) + (m : Int)), .tuple (ps ++ qs.map (upD n))])
  (fun os x => ∃ n m ps qs k, pre_beside os n m ps qs ∧ besideX n m ps qs = some k ∧ x = ⟨CP, some [("number", .int k)]⟩)
theorem ok_beside {f f1 f2 CP fI : Addr} {fd fd1 fd2 fdI : FuncData} (Fn : Fun K "beside" "beside" s_beside f fd) (X : Txt mg) (F1 : FnOk P w K mg base CX0 4 f1 fd1 ["plan"] (sp_check_plan K T)) (k1 : PySem.W.keepIn K (.ref f1) = true) (b1 : Binds K fd1 ["plan"] []) (m1 : mg "check_plan" = some (.ref f1))
    (F2 : FnOk P w K mg base CX0 1 f2 fd2 ["probes", "by"] (sp_moved K T)) (k2 : PySem.W.keepIn K (.ref f2) = true) (b2 : Binds K fd2 ["probes", "by"] []) (m2 : mg "moved" = some (.ref f2)) (L : ClsI K P mg "BadPlan" CP fI fdI "number" "number" "no plan, by ") :
    FnOk P w K mg base (L2.CX P w) 5 f fd ["one", "other"] (sx_beside K T CP) := by
  refine ok_defX Fn sc_beside (fun os ⟨_, _, _, _, e, _⟩ => by rw [e]; rfl) fun cdv A outer s H E' hr => ?_
  obtain ⟨tt, mt⟩ := X.MOST_THINGS
  obtain ⟨tp, mp⟩ := X.MOST_PROBES
  have hr2 : Room 2 (A.deeper (envOfC "beside" (defScope s_beside) s.heap.objs.size f cdv)) := hr.mono (by decide)
  have hr1 : Room 1 (A.deeper (envOfC "beside" (defScope s_beside) s.heap.objs.size f cdv)) := hr.mono (by decide)
  have FI := PySem.XIn.OwnI.fn L.T
  refine ⟨_, (pss_cons (ps_expr (pe_call F1 hr (by rfl) m1 k1 b1 .nil pass0 (pa_cons (pv 0) pa_nil)))
  (pss_cons (ps_expr (pe_call F1 hr (by rfl) m1 k1 b1 .nil pass0 (pa_cons (pv 1) pa_nil)))
  (pss_cons (ps_asg (pv 0) (pg_tup rfl (pgs_cons (pg_name (i := 2) sc_beside.nd rfl (by first | exact Or.inl rfl | exact Or.inr rfl)) (pgs_cons (pg_name (i := 3) sc_beside.nd rfl (by first | exact Or.inl rfl | exact Or.inr rfl)) pgs_nil))))
  (pss_cons (ps_asg (pv 1) (pg_tup rfl (pgs_cons (pg_name (i := 4) sc_beside.nd rfl (by first | exact Or.inl rfl | exact Or.inr rfl)) (pgs_cons (pg_name (i := 5) sc_beside.nd rfl (by first | exact Or.inl rfl | exact Or.inr rfl)) pgs_nil))))
  (pss_cons (ps_if (pt_cmpR op_gt (pe_op (r := rI0 fun i j => .int (i + j)) op_add (pv 2) (pv 4)) (pe_glob (v := .int 10) (by rfl) mt ⟨_, rfl⟩) (nomark _)) (pss_one (ps_raise rfl (takes_of (E := E') rfl rfl rfl rfl) (pmk_oex L.o L.i L.t (fn_init (w := w) (base := base) L.T) hr2 L.b .nil pass0 (by rfl) L.m (pa_cons (pe_un un_neg pe_int) pa_nil)))) pss_nil)
  (pss_cons (ps_if (pt_cmpR op_gt (pe_op (r := rI0 fun i j => .int (i + j)) op_add (pe_callB (r := rLenQ K) call_len_seq (by rfl) X.len bt_len (pa_cons (pv 3) pa_nil)) (pe_callB (r := rLenQ K) call_len_seq (by rfl) X.len bt_len (pa_cons (pv 5) pa_nil))) (pe_glob (v := .int 16) (by rfl) mp ⟨_, rfl⟩) (nomark _)) (pss_one (ps_raise rfl (takes_of (E := E') rfl rfl rfl rfl) (pmk_oex L.o L.i L.t (fn_init (w := w) (base := base) L.T) hr2 L.b .nil pass0 (by rfl) L.m (pa_cons (pe_glob (v := .int 16) (by rfl) mp ⟨_, rfl⟩) pa_nil)))) pss_nil)
  (pss_one (ps_ret (pe_tup (pa_cons (pe_op (r := rI0 fun i j => .int (i + j)) op_add (pv 2) (pv 4)) (pa_cons (pe_op (r := rCatA K) op_catA (pv 3) (pe_call F2 hr1 (by rfl) m2 k2 b2 .nil pass0 (pa_cons (pv 5) (pa_cons (pv 2) pa_nil)))) pa_nil))))))))))), ?_⟩
  rintro os ⟨n, m, ps, qs, rfl, hg, hq⟩
  refine sx_seq (sx_of (s_drop (e_callD (F := F_none) (ds := [.tuple [.int n, .tuple ps]]) (a_cons e_var a_nil) ⟨n, ps, rfl, hg⟩) ?_))
  refine sx_seq (sx_of (s_drop (e_callD (F := F_none) (ds := [.tuple [.int m, .tuple qs]]) (a_cons e_var a_nil) ⟨m, qs, rfl, hq⟩) ?_))
  refine sx_seq (sx_of (s_asgTg e_var (tg_pair (vs := [2, 3]) (by decide) (by decide)) ?_))
  refine sx_seq (sx_of (s_asgTg e_var (tg_pair (vs := [4, 5]) (by decide) (by decide)) ?_))
  refine sx_seq (sx_if (t_B (e_cmp (f := fun i j => decide (i > j)) (e_add e_var e_var) e_int)) (fun h => ?_) fun h => sx_of (s_next ?_))
  · have hx : besideX n m ps qs = some (-1) := by
      have h := of_decide_eq_true h
      exact if_pos (by omega)
    exact sx_raise (mx_ini (i := -1) (a_cons (e_neg e_int) a_nil) ⟨by decide +kernel, by decide +kernel⟩ ⟨n, m, ps, qs, _, ⟨rfl, hg, hq⟩, hx, rfl⟩)
  · have h1 : ¬ n + m > 10 := by
      have h := of_decide_eq_false h
      omega
    refine sx_seq (sx_if (t_B (e_cmp (f := fun i j => decide (i > j)) (e_add (e_len (a_cons e_var a_nil) (.inr rfl)) (e_len (a_cons e_var a_nil) (.inr rfl))) e_int)) (fun h => ?_) fun h => sx_of (s_next ?_))
    · have hx : besideX n m ps qs = some 16 := by
        have h := of_decide_eq_true h
        exact (if_neg h1).trans (if_pos (by omega))
      exact sx_raise (mx_ini (i := 16) (a_cons e_int a_nil) ⟨by decide +kernel, by decide +kernel⟩ ⟨n, m, ps, qs, _, ⟨rfl, hg, hq⟩, hx, rfl⟩)
    · have hx : besideX n m ps qs = none := by
        have h := of_decide_eq_false h
        exact (if_neg h1).trans (if_neg (by omega))
      have l1 := hg.len
      have l2 := hq.len
      refine sx_of (s_ret (e_tup (ds := [.int ((n : Int) + (m : Int)), .tuple (ps ++ qs.map (upD n))]) (a_cons (e_add e_var e_var) (a_cons (e_catT (es := qs.map (upD n)) e_var (E.is (e_callD (F := F_moved) (ds := [.tuple qs, .int n]) (a_cons e_var (a_cons e_var a_nil)) ⟨qs, n, rfl, by omega, good_ints hq⟩) rfl) (by rw [List.length_map]; omega)) a_nil)) (by show 2 ≤ 100000; decide)) ⟨n, m, ps, qs, ⟨rfl, hg, hq⟩, hx, rfl⟩)

/-! beside, of plans that are good -/
def F_beside : List PyData → PyData
  | [.tuple [.int n, .tuple ps], .tuple [.int m, .tuple qs]] => .tuple [.int (n + m), .tuple (ps ++ qs.map (upD n))]
  | _ => .none
abbrev sp_beside (K : PySem.W.Frag) (T : List (Addr × Str)) : Sp := spD K T (fun ds => ∃ (n m : Nat) (ps qs : List PyData), ds = [.tuple [.int n, .tuple ps], .tuple [.int m, .tuple qs]] ∧ GoodP n ps ∧ GoodP m qs ∧ besideX n m ps qs = none) F_beside
theorem gd_beside {f CP : Addr} {fd : FuncData} {k : Nat} (F : FnOk P w K mg base (L2.CX P w) k f fd ["one", "other"] (sx_beside K T CP)) : FnOk P w K mg base CX0 k f fd ["one", "other"] (sp_beside K T) :=
  fn_goodD F fun ds ⟨n, m, ps, qs, e, hg, hq, hx⟩ => by
    subst e
    refine ⟨⟨n, m, ps, qs, rfl, hg, hq⟩, fun r ⟨n', m', ps', qs', ⟨z, _, _⟩, _, er⟩ => ?_, fun x ⟨n', m', ps', qs', k', ⟨z, _, _⟩, hk, _⟩ => ?_⟩
    · have z := dats_inj z
      simp only [List.cons.injEq, PyData.tuple.injEq, PyData.int.injEq] at z
      obtain ⟨⟨z1, rfl, _⟩, ⟨z2, rfl, _⟩, _⟩ := z
      obtain rfl : n = n' := by omega
      obtain rfl : m = m' := by omega
      exact er
    · have z := dats_inj z
      simp only [List.cons.injEq, PyData.tuple.injEq, PyData.int.injEq] at z
      obtain ⟨⟨z1, rfl, _⟩, ⟨z2, rfl, _⟩, _⟩ := z
      obtain rfl : n = n' := by omega
      obtain rfl : m = m' := by omega
      rw [hx] at hk
      cases hk
/-! sorted whole numbers -/
theorem ints_alike (l : List Nat) : PySem.W.AllAlike ((l.map fun (j : Nat) => PyData.int j).map selfD) := fun d hd d' hd' => by
  rw [List.map_map] at hd hd'
  obtain ⟨x, _, rfl⟩ := List.mem_map.mp hd
  obtain ⟨y, _, rfl⟩ := List.mem_map.mp hd'
  rfl
theorem ints_sortable (l : List Nat) : PySem.W.Sortable ((l.map fun (j : Nat) => PyData.int j).map selfD) := .inr fun d hd => by
  rw [List.map_map] at hd
  obtain ⟨x, _, rfl⟩ := List.mem_map.mp hd
  exact ⟨fun z => (by cases z), fun xs z => (by cases z)⟩
theorem ints_depth (l : List Nat) : ∀ d ∈ (l.map fun (j : Nat) => PyData.int j), d.depth ≤ 60 := fun d hd => by
  obtain ⟨x, _, rfl⟩ := List.mem_map.mp hd
  exact Nat.zero_le _
theorem ints_sort (l : List Nat) : (l.map fun (j : Nat) => PyData.int j).mergeSort (PySem.W.dataLe false selfD) = (l.mergeSort leN).map fun (j : Nat) => PyData.int j := by
  refine (PySem.W.sort_maps (r := leN) (s := PySem.W.dataLe false selfD) (fun (j : Nat) => PyData.int j) fun a _ b _ => ?_).symm
  have z := congrFun (congrFun (PySem.W.dataLe_int fun j : Nat => (j : Int)) a) b
  show leN a b = PySem.W.dataLe false (fun j : Nat => PyData.int (j : Int)) a b
  rw [z]
  unfold leN
  exact decide_eq_decide.mpr (by omega)
theorem el_sortI {K' : PySem.W.Frag} {G : Dv.Ctx} {te : TE} {l : List Nat} (h : E K T te G (· = .list (l.map fun (j : Nat) => PyData.int j))) : EL K T (tCB (rSortedA K') (tCons te tNil)) G (· = (l.mergeSort leN).map fun (j : Nat) => PyData.int j) :=
  (el_sortA h (ints_alike l) (ints_sortable l) (ints_depth l)).imp fun ds e => by rw [e, ints_sort]
theorem sc__law_moved : FnScope ["_law_lot_here", "_law_places", "_law_thing"] ["_law_lot_here", "_law_places"] (defScope s__law_moved) := ⟨rfl, rfl, rfl, by decide +kernel, rfl, by decide +kernel, by decide +kernel⟩
abbrev n__law_moved : List Str := ["_law_lot_here", "_law_places", "_law_thing"]
def F_lmoved : List PyData → PyData
  | [l, .list ps] => movedD (natsOf (.tuple ps)) l
  | _ => .none
def plD (pl : List Nat) : PyData := .list (pl.map fun (j : Nat) => PyData.int j)
theorem F_lmoved_eq (pl : List Nat) (l : PyData) : F_lmoved [l, plD pl] = movedD pl l := by
  show movedD (natsOf (lotD pl)) l = _
  rw [natsOf_lot]
def atP (pl : List Nat) : PyData → PyData
  | .int i => .int (piN pl i.toNat : Nat)
  | d => d
theorem at_map (pl js : List Nat) : (js.map fun (j : Nat) => PyData.int j).map (atP pl) = (js.map (piN pl)).map fun (j : Nat) => PyData.int j := by
  rw [List.map_map, List.map_map]
  exact List.map_congr_left fun j _ => by show PyData.int (piN pl ((j : Int).toNat) : Nat) = _; rw [Int.toNat_natCast]; rfl
theorem Pm.getD {n : Nat} {pl : List Nat} (h : Pm n pl) {j : Nat} (hj : j < n) : (pl.map fun (j : Nat) => PyData.int j)[j]? = some (.int (piN pl j : Nat)) := by
  rw [List.getElem?_map, h.get hj]
  rfl
abbrev sp_lmoved (K : PySem.W.Frag) (T : List (Addr × Str)) : Sp := spD K T (fun ds => ∃ (n : Nat) (pl : List Nat) (l : PyData), ds = [l, plD pl] ∧ Pm n pl ∧ LotG n l ∧ n ≤ 1000) F_lmoved
theorem ok_lmoved {f : Addr} {fd : FuncData} (Fn : Fun K "_law_moved" "_law_moved" s__law_moved f fd) (X : Txt mg) : FnOk P w K mg base CX0 1 f fd ["_law_lot_here", "_law_places"] (sp_lmoved K T) := by
  refine ok_defD Fn sc__law_moved (fun ds ⟨_, _, _, e, _⟩ => by rw [e]; rfl) fun cdv A outer s H E' hr => ?_
  refine ⟨_, (pss_one (ps_ret (pe_callTy (r := rTupQ K) call_tuple_of (by rfl) X.tuple bt_tuple (pa_cons (pe_callB (r := rSortedA K) (cr_sortedA hr.units) (by rfl) X.sorted bt_sorted (pa_cons (pe_lc (own := [("_law_thing", 2)]) rfl sc__law_moved.nd (pi_tup (pv 0)) (blkOk_by (N := n__law_moved) (sc := defScope s__law_moved) (by decide +kernel)) (fun _ _ _ _ _ => (pg_name (i := 2) sc__law_moved.nd rfl (by first | exact Or.inl rfl | exact Or.inr rfl))) (fun _ _ _ _ _ => pts_nil) (fun _ _ _ _ _ => (pe_ix (r := rIxL K) ix_list (pv 1) (pv 2) (fun _ _ => rfl)))) pa_nil)) pa_nil)))), ?_⟩
  rintro ds ⟨n, pl, l, rfl, hp, ⟨js, rfl, hg⟩, hn⟩
  have hl := hg.len
  have h1 : E K T (tLc (iTup K (tVar 0)) (gName 2) tYes (tOp (rIxL K) (tVar 1) (tVar 2)) [2]) [some (.dat (lotD js)), some (.dat (plD pl)), none] (· = .list ((js.map (piN pl)).map fun (j : Nat) => PyData.int j)) := by
    refine E.is (EL.is (el_lcM (vs := [2]) (ds := js.map fun (j : Nat) => PyData.int j) (atP pl) (i_tup e_var) (fun d hd => ?_) (by rw [List.length_map]; omega))) (by rw [at_map])
    obtain ⟨j, hj, rfl⟩ := List.mem_map.mp hd
    exact ⟨_, tg_name (by decide), e_ixL (i := j) (ds := pl.map fun (j : Nat) => PyData.int j) e_var e_var (by rw [hp.getD (hg.2 j hj)]; show _ = some (PyData.int (piN pl ((j : Int).toNat) : Nat)); rw [Int.toNat_natCast])⟩
  exact s_ret (e_tupleL (a_cons (EL.is (el_sortI h1)) a_nil)) (by show _ = F_lmoved [_, _]; rw [F_lmoved_eq, movedD_lot]; rfl)
end
end K17

namespace K17
open PySem PySem.Spec L2 Dv DvC DvT
open PyProof.Rows hiding St
section
variable {P : Program} {w : World} {K : PySem.W.Frag} {mg : Str → Option Value} {base : Heap} {T : List (Addr × Str)}
/-! what the law compares -/
theorem sh_lotD (js : List Nat) : Sh 1 (lotD js) := sh_tup fun d hd => (intsD_map js).sh d hd
theorem alike_lotD (a b : List Nat) : PySem.W.alike (lotD a) (lotD b) = true := by
  rw [← tupD_toI, ← tupD_toI]
  exact PySem.W.alike_ints _ _
/-- pairs of a lot and a number -/
def PairI (n : Nat) (d : PyData) : Prop := ∃ js c, d = .tuple [lotD js, .int c] ∧ GoodJ n js
/-- pairs of a lot and a fraction -/
def PairF (n : Nat) (d : PyData) : Prop := ∃ js a b, d = .tuple [lotD js, .tuple [.int a, .int b]] ∧ GoodJ n js
section
variable {n : Nat} {ds : List PyData}
theorem pairI_ok (h : ∀ d ∈ ds, PairI n d) : PySem.W.AllAlike (ds.map selfD) ∧ PySem.W.Sortable (ds.map selfD) ∧ (∀ d ∈ ds, d.depth ≤ 60) ∧ (∀ x ∈ ds, ∀ y ∈ ds, PySem.W.keyToks x = PySem.W.keyToks y → x = y) ∧ ∀ d ∈ ds, Sh 2 d := by
  have sh : ∀ d ∈ ds, Sh 2 d := fun d hd => by
    obtain ⟨js, c, rfl, _⟩ := h d hd
    refine sh_tup fun x hx => ?_
    rcases List.mem_cons.mp hx with rfl | hx
    · exact sh_lotD js
    · rw [List.mem_singleton.mp hx]; exact sh_int
  refine ⟨fun d hd d' hd' => ?_, .inl fun d hd => ?_, fun d hd => ?_, fun x hx y hy e => ?_, sh⟩
  · obtain ⟨x, hx, rfl⟩ := List.mem_map.mp hd
    obtain ⟨y, hy, rfl⟩ := List.mem_map.mp hd'
    obtain ⟨a, i, rfl, _⟩ := h x hx
    obtain ⟨b, j, rfl, _⟩ := h y hy
    show PySem.W.alikeAll [lotD a, .int i] [lotD b, .int j] = true
    have e := alike_lotD a b
    simp [PySem.W.alikeAll, PySem.W.alike, e]
  · obtain ⟨x, hx, rfl⟩ := List.mem_map.mp hd
    obtain ⟨a, i, rfl, _⟩ := h x hx
    exact ⟨_, _, rfl⟩
  · have := (sh d hd).2
    omega
  · obtain ⟨a, i, rfl, _⟩ := h x hx
    obtain ⟨b, j, rfl, _⟩ := h y hy
    obtain ⟨rfl, z⟩ := tok_pair e
    have z := (List.cons.inj (show Sum.inl i :: [Sum.inl (0 : Int)] = Sum.inl j :: [Sum.inl (0 : Int)] from z)).1
    rw [Sum.inl.inj z]
theorem pairF_ok (h : ∀ d ∈ ds, PairF n d) : PySem.W.AllAlike (ds.map selfD) ∧ PySem.W.Sortable (ds.map selfD) ∧ (∀ d ∈ ds, d.depth ≤ 60) ∧ (∀ x ∈ ds, ∀ y ∈ ds, PySem.W.keyToks x = PySem.W.keyToks y → x = y) ∧ ∀ d ∈ ds, Sh 2 d := by
  have sh : ∀ d ∈ ds, Sh 2 d := fun d hd => by
    obtain ⟨js, a, b, rfl, _⟩ := h d hd
    refine sh_tup fun x hx => ?_
    rcases List.mem_cons.mp hx with rfl | hx
    · exact sh_lotD js
    · rw [List.mem_singleton.mp hx]
      refine sh_tup fun y hy => ?_
      rcases List.mem_cons.mp hy with rfl | hy
      · exact sh_int
      · rw [List.mem_singleton.mp hy]; exact sh_int
  refine ⟨fun d hd d' hd' => ?_, .inl fun d hd => ?_, fun d hd => ?_, fun x hx y hy e => ?_, sh⟩
  · obtain ⟨x, hx, rfl⟩ := List.mem_map.mp hd
    obtain ⟨y, hy, rfl⟩ := List.mem_map.mp hd'
    obtain ⟨a, i, i2, rfl, _⟩ := h x hx
    obtain ⟨b, j, j2, rfl, _⟩ := h y hy
    show PySem.W.alikeAll [lotD a, .tuple [.int i, .int i2]] [lotD b, .tuple [.int j, .int j2]] = true
    have e := alike_lotD a b
    simp [PySem.W.alikeAll, PySem.W.alike, e]
  · obtain ⟨x, hx, rfl⟩ := List.mem_map.mp hd
    obtain ⟨a, i, i2, rfl, _⟩ := h x hx
    exact ⟨_, _, rfl⟩
  · have := (sh d hd).2
    omega
  · obtain ⟨a, i, i2, rfl, _⟩ := h x hx
    obtain ⟨b, j, j2, rfl, _⟩ := h y hy
    obtain ⟨rfl, z⟩ := tok_pair e
    have z := show Sum.inl (1 : Int) :: Sum.inl i :: Sum.inl (1 : Int) :: Sum.inl i2 :: [Sum.inl (0 : Int), Sum.inl (0 : Int)] = Sum.inl (1 : Int) :: Sum.inl j :: Sum.inl (1 : Int) :: Sum.inl j2 :: ([Sum.inl (0 : Int), Sum.inl (0 : Int)] : List (Int ⊕ List Nat)) from z
    simp only [List.cons.injEq, Sum.inl.injEq, true_and, and_true] at z
    rw [z.1, z.2]
theorem sort_mem {d : PyData} : d ∈ ds.mergeSort (PySem.W.dataLe false selfD) ↔ d ∈ ds := (List.mergeSort_perm ds _).mem_iff
theorem sh_sorted {k : Nat} (h : ∀ d ∈ ds, Sh k d) : Sh (k + 1) (.list (ds.mergeSort (PySem.W.dataLe false selfD))) := sh_lst fun d hd => h d (sort_mem.mp hd)
end
section
variable {n m sl : Nat} {pl : List Nat} {ps ts : List PyData} {cs : List Int} {wr : Int}
theorem could_pairs : ∀ d ∈ couldL n ps ts m sl, PairI n d := fun d hd => by
  rw [could_eq] at hd
  obtain ⟨l, hl, rfl⟩ := List.mem_map.mp hd
  obtain ⟨js, rfl, g⟩ := lotsC_good hl
  exact ⟨js, _, rfl, g⟩
theorem Pm.mvI (h : Pm n pl) {d : PyData} (hd : PairI n d) : PairI n (mvP pl d) := by
  obtain ⟨js, c, rfl, g⟩ := hd
  exact ⟨mv pl js, c, by show PyData.tuple [movedD pl (lotD js), .int c] = _; rw [movedD_lot], h.good g⟩
theorem Pm.mvF (h : Pm n pl) {d : PyData} (hd : PairF n d) : PairF n (mvP pl d) := by
  obtain ⟨js, a, b, rfl, g⟩ := hd
  exact ⟨mv pl js, a, b, by show PyData.tuple [movedD pl (lotD js), _] = _; rw [movedD_lot], h.good g⟩
theorem Pm.map_I (h : Pm n pl) {ds : List PyData} (hd : ∀ d ∈ ds, PairI n d) : ∀ d ∈ ds.map (mvP pl), PairI n d := fun d hd' => by
  obtain ⟨x, hx, rfl⟩ := List.mem_map.mp hd'
  exact h.mvI (hd x hx)
theorem Pm.map_F (h : Pm n pl) {ds : List PyData} (hd : ∀ d ∈ ds, PairF n d) : ∀ d ∈ ds.map (mvP pl), PairF n d := fun d hd' => by
  obtain ⟨x, hx, rfl⟩ := List.mem_map.mp hd'
  exact h.mvF (hd x hx)
theorem Pm.could_sort (h : Pm n pl) (hn : n < 7) (hm : m < 4) (hp : ∀ p ∈ ps, LotG n p) : ((couldL n ps ts m sl).map (mvP pl)).mergeSort (PySem.W.dataLe false selfD) = (couldL n (ps.map (movedD pl)) ts m sl).mergeSort (PySem.W.dataLe false selfD) :=
  sort_perm (h.could hn hm hp) (pairI_ok (n := n) (h.map_I could_pairs)).2.2.2.1
theorem shares_pairs {rs : List (PyData × Int)} (hg : ∀ q ∈ rs, LotG n q.1) : ∀ d ∈ sharesL rs, PairF n d := fun d hd => by
  obtain ⟨q, hq, rfl⟩ := List.mem_map.mp hd
  obtain ⟨js, e, g⟩ := hg q ((List.mergeSort_perm rs _).mem_iff.mp hq)
  exact ⟨js, _, _, by rw [e]; rfl, g⟩
theorem Pm.shares_sort (h : Pm n pl) {a b : List (PyData × Int)} (hp : (a.map (mvR pl)).Perm b) (hg : ∀ q ∈ a, LotG n q.1) : ((sharesL a).map (mvP pl)).mergeSort (PySem.W.dataLe false selfD) = (sharesL b).mergeSort (PySem.W.dataLe false selfD) :=
  sort_perm (Pm.shares hp) (pairF_ok (n := n) (h.map_F (shares_pairs hg))).2.2.2.1
/-! sure -/
def natsL (js : List Nat) : PyData := .list (js.map fun (j : Nat) => PyData.int j)
def allN (n : Nat) (ls : List PyData) : List Nat := (List.range n).filter fun j => decide (haveN (.int (j : Nat)) ls = ls.length)
def noneN (n : Nat) (ls : List PyData) : List Nat := (List.range n).filter fun j => decide (haveN (.int (j : Nat)) ls = 0)
theorem sure_eq (ls : List PyData) (hl : lotsC n ps ts m sl = ls) (h : ls ≠ []) : sureD n ps ts m sl = .tuple [natsL (allN n ls), natsL (noneN n ls)] := by
  unfold sureD
  rw [hl]
  rw [if_neg (by simpa using h)]
  show PyData.tuple [.list ((rng n).filter _), .list ((rng n).filter _)] = _
  rw [pick_rng', pick_rng']
  rfl
theorem sure_non (hl : lotsC n ps ts m sl = []) : sureD n ps ts m sl = .none := by
  unfold sureD
  rw [hl]
  rfl
theorem Pm.sure (h : Pm n pl) (hn : n < 7) (hm : m < 4) (hp : ∀ p ∈ ps, LotG n p) (hne : K17.lotsC n ps ts m sl ≠ []) : sureD n (ps.map (movedD pl)) ts m sl = .tuple [natsL (mv pl (allN n (K17.lotsC n ps ts m sl))), natsL (mv pl (noneN n (K17.lotsC n ps ts m sl)))] := by
  have hpm := h.lotsC (sl := sl) (ts := ts) hn hm hp
  have hne' : K17.lotsC n (ps.map (movedD pl)) ts m sl ≠ [] := fun z => hne (by rw [z] at hpm; exact List.map_eq_nil_iff.mp hpm.eq_nil)
  have hg : ∀ l ∈ K17.lotsC n ps ts m sl, LotG n l := fun l hl => lotsC_good hl
  have hlen : (K17.lotsC n (ps.map (movedD pl)) ts m sl).length = (K17.lotsC n ps ts m sl).length := by rw [← hpm.length_eq, List.length_map]
  unfold sureD
  rw [if_neg (by simpa using hne')]
  have e1 : inAll n (K17.lotsC n (ps.map (movedD pl)) ts m sl) = (mv pl (allN n (K17.lotsC n ps ts m sl))).map fun (j : Nat) => PyData.int j := by
    refine h.pick (g := fun d => decide (haveN d (K17.lotsC n ps ts m sl) = (K17.lotsC n ps ts m sl).length)) fun j hj => ?_
    rw [h.have hj hg hpm, hlen]
  have e2 : inNone n (K17.lotsC n (ps.map (movedD pl)) ts m sl) = (mv pl (noneN n (K17.lotsC n ps ts m sl))).map fun (j : Nat) => PyData.int j := by
    refine h.pick (g := fun d => decide (haveN d (K17.lotsC n ps ts m sl) = 0)) fun j hj => ?_
    rw [h.have hj hg hpm]
  rw [e1, e2]
  rfl
theorem Pm.sure_none (h : Pm n pl) (hn : n < 7) (hm : m < 4) (hp : ∀ p ∈ ps, LotG n p) (hne : K17.lotsC n ps ts m sl = []) : sureD n (ps.map (movedD pl)) ts m sl = .none := by
  have hpm := h.lotsC (sl := sl) (ts := ts) hn hm hp
  rw [hne] at hpm
  exact sure_non hpm.symm.eq_nil
theorem sh_natsL (js : List Nat) : Sh 1 (natsL js) := sh_lst fun d hd => by
  obtain ⟨j, _, rfl⟩ := List.mem_map.mp hd
  exact sh_int
theorem sh_sure (a b : List Nat) : Sh 2 (.tuple [natsL a, natsL b]) := sh_tup fun x hx => by
  rcases List.mem_cons.mp hx with rfl | hx
  · exact sh_natsL a
  · rw [List.mem_singleton.mp hx]; exact sh_natsL b
/-! plans beside one another -/
theorem isLot_good {js : List Nat} (h : GoodJ n js) : isLotD n (lotD js) = true := lotGo_of (l := 0) h fun _ _ => Nat.zero_le _
def bothJ (n : Nat) (a b : List Nat) : List Nat := a ++ b.map (· + n)
theorem both_good {a b : List Nat} (ha : GoodJ n a) (hb : GoodJ n b) : GoodJ (n + n) (bothJ n a b) := by
  refine ⟨List.pairwise_append.mpr ⟨ha.1, List.pairwise_map.mpr (hb.1.imp fun h => by omega), fun x hx y hy => ?_⟩, fun j hj => ?_⟩
  · obtain ⟨z, hz, rfl⟩ := List.mem_map.mp hy
    have := ha.2 x hx
    omega
  · rcases List.mem_append.mp hj with hj | hj
    · have := ha.2 j hj; omega
    · obtain ⟨z, hz, rfl⟩ := List.mem_map.mp hj
      have := hb.2 z hz
      omega
theorem upD_lot (js : List Nat) : upD (n : Int) (lotD js) = lotD (js.map (· + n)) := by
  show PyData.tuple ((js.map fun (j : Nat) => PyData.int j).map _) = PyData.tuple ((js.map (· + n)).map fun (j : Nat) => PyData.int j)
  rw [List.map_map, List.map_map]
  congr 1
theorem ans_any (a b : List Nat) : ansD (lotD a) (lotD b) = .int (if (a.any fun j => decide (j ∈ b)) = true then 1 else 0) := by
  show PyData.int (if hitD _ _ = true then 1 else 0) = _
  rw [hit_lots]
theorem ans_left {a js ks : List Nat} (ha : GoodJ n a) : ansD (lotD a) (lotD (bothJ n js ks)) = ansD (lotD a) (lotD js) := by
  rw [ans_any, ans_any]
  congr 3
  rw [Bool.eq_iff_iff, List.any_eq_true, List.any_eq_true]
  constructor
  · rintro ⟨j, hj, h⟩
    refine ⟨j, hj, decide_eq_true ?_⟩
    rcases List.mem_append.mp (of_decide_eq_true h) with h | h
    · exact h
    · obtain ⟨z, _, e⟩ := List.mem_map.mp h
      have := ha.2 j hj
      omega
  · rintro ⟨j, hj, h⟩
    exact ⟨j, hj, decide_eq_true (List.mem_append_left _ (of_decide_eq_true h))⟩
theorem ans_right {a js ks : List Nat} (hj : GoodJ n js) : ansD (lotD (a.map (· + n))) (lotD (bothJ n js ks)) = ansD (lotD a) (lotD ks) := by
  rw [ans_any, ans_any]
  congr 3
  rw [Bool.eq_iff_iff, List.any_eq_true, List.any_eq_true]
  constructor
  · rintro ⟨j, hm, h⟩
    obtain ⟨i, hi, rfl⟩ := List.mem_map.mp hm
    refine ⟨i, hi, decide_eq_true ?_⟩
    rcases List.mem_append.mp (of_decide_eq_true h) with h | h
    · have := hj.2 _ h
      omega
    · obtain ⟨z, hz, e⟩ := List.mem_map.mp h
      rw [show i = z by omega]
      exact hz
  · rintro ⟨j, hm, h⟩
    exact ⟨j + n, List.mem_map.mpr ⟨j, hm, rfl⟩, decide_eq_true (List.mem_append_right _ (List.mem_map.mpr ⟨j, of_decide_eq_true h, rfl⟩))⟩
theorem Pm.both (h : Pm n pl) (hp : ∀ p ∈ ps, LotG n p) {js : List Nat} (hj : GoodJ n js) : (ps ++ (ps.map (movedD pl)).map (upD (n : Int))).map (fun p => ansD p (lotD (bothJ n js (mv pl js)))) = (ps.map fun p => ansD p (lotD js)) ++ ps.map fun p => ansD p (lotD js) := by
  rw [List.map_append, List.map_map, List.map_map]
  congr 1
  · refine List.map_congr_left fun p hp' => ?_
    obtain ⟨a, rfl, ga⟩ := hp p hp'
    exact ans_left ga
  · refine List.map_congr_left fun p hp' => ?_
    obtain ⟨a, e, ga⟩ := hp p hp'
    subst e
    simp only [Function.comp_apply]
    rw [movedD_lot, upD_lot, ans_right hj, ← movedD_lot, ← movedD_lot, h.ans ⟨a, rfl, ga⟩ ⟨js, rfl, hj⟩]
theorem both_ne (a b c : PyData) (hn : 1 ≤ n) : PyData.eqv (.tuple [.int ((n : Int) + (n : Int)), a]) (.tuple [.int (n : Int), b]) = false := by
  show (PyData.eqv (.int ((n : Int) + (n : Int))) (.int (n : Int)) && _) = false
  rw [show PyData.eqv (.int ((n : Int) + (n : Int))) (.int (n : Int)) = false from decide_eq_false (by omega)]
  rfl
theorem good_goodB (hn : n < 6) (hl : ps.length ≤ 8) {qs : List PyData} (h2 : qs.length ≤ 8) : besideX n n ps qs = none := by
  unfold besideX
  rw [if_neg (by omega), if_neg (by omega)]
theorem Pm.goodB (h : Pm n pl) (hn : n < 6) (g : GoodP n ps) (hl : ps.length ≤ 8) : GoodP (n + n) (ps ++ (ps.map (movedD pl)).map (upD (n : Int))) := by
  have n1 := g.n1
  refine ⟨by omega, by omega, by rw [List.length_append, List.length_map, List.length_map]; omega, fun p hp => ?_⟩
  rcases List.mem_append.mp hp with hp | hp
  · obtain ⟨a, rfl, ga, ne⟩ := probe_lot (g.all p hp)
    exact probe_of ⟨ga.1, fun j hj => by have := ga.2 j hj; omega⟩ ne
  · obtain ⟨q, hq, rfl⟩ := List.mem_map.mp hp
    obtain ⟨a, rfl, ga, ne⟩ := probe_lot ((h.goodp g).all q hq)
    rw [upD_lot]
    refine probe_of ⟨List.pairwise_map.mpr (ga.1.imp fun h => by omega), fun j hj => ?_⟩ fun z => ne (List.map_eq_nil_iff.mp z)
    obtain ⟨z, hz, rfl⟩ := List.mem_map.mp hj
    have := ga.2 z hz
    omega
end
end
end K17

namespace K17
open PySem PySem.Spec L2 Dv DvC DvT
open PyProof.Rows hiding St
section
variable {P : Program} {w : World} {K : PySem.W.Frag} {mg : Str → Option Value} {base : Heap} {T : List (Addr × Str)}
/-! left, places = list(range(n)), []; while left != []: places.append(left.pop(..)) -/
def vI (l : List Nat) : List V := l.map fun (j : Nat) => V.int j
structure LP where
  (xs ys : List Nat)
section
variable {W : Wd K T} {p1 p2 : Addr} {h1 : ¬ W.X p1} {h2 : ¬ (W.X p2 ∨ p2 = p1)}
def LTW (W : Wd K T) (p1 p2 : Addr) (h1 : ¬ W.X p1) (h2 : ¬ (W.X p2 ∨ p2 = p1)) (c : LP) : Wd K T := (W.aside p1 h1 (.lst (vI c.xs)) (plain_lst _)).aside p2 h2 (.lst (vI c.ys)) (plain_lst _)
def LTF (W : Wd K T) (p1 p2 : Addr) (h1 : ¬ W.X p1) (h2 : ¬ (W.X p2 ∨ p2 = p1)) : Fam K T LP := ⟨fun c => LTW W p1 p2 h1 h2 c, fun _ _ => True, fun _ _ => rfl, fun _ _ _ => Iff.rfl, fun n _ => n⟩
theorem lt_at {c : LP} {H : Hp} (j : (LTW W p1 p2 h1 h2 c).J H) : H p1 = some (.lst (vI c.xs)) ∧ H p2 = some (.lst (vI c.ys)) ∧ p1 ≠ p2 := by
  have ne : p1 ≠ p2 := fun z => h2 (.inr z.symm)
  refine ⟨?_, j.2, ne⟩
  have z := j.1.2
  rwa [del_ne ne] at z
theorem lt_put1 {c : LP} {H : Hp} {xs : List Nat} (j : (LTW W p1 p2 h1 h2 c).J H) : (LTW W p1 p2 h1 h2 ⟨xs, c.ys⟩).J (upd H p1 (.lst (vI xs))) ∧ Ex (LTW W p1 p2 h1 h2 c) H (upd H p1 (.lst (vI xs))) := by
  have ne : p1 ≠ p2 := (lt_at j).2.2
  refine ⟨⟨?_, by rw [upd_ne (Ne.symm ne)]; exact j.2⟩, Ex.out (.refl _) (.inl (.inr rfl))⟩
  rw [del_upd ne]
  exact (aside_put (o' := .lst (vI xs)) (ho' := plain_lst _) j.1).1
theorem lt_put2 {c : LP} {H : Hp} {ys : List Nat} (j : (LTW W p1 p2 h1 h2 c).J H) : (LTW W p1 p2 h1 h2 ⟨c.xs, ys⟩).J (upd H p2 (.lst (vI ys))) ∧ Ex (LTW W p1 p2 h1 h2 c) H (upd H p2 (.lst (vI ys))) :=
  ⟨(aside_put (o' := .lst (vI ys)) (ho' := plain_lst _) j).1, Ex.out (.refl _) (.inr rfl)⟩
theorem vi_dp {H : Hp} {K' : PySem.W.Frag} : ∀ l : List Nat, DpAll K' H (vI l) (l.map fun (j : Nat) => PyData.int j)
  | [] => .nil
  | x :: r => .cons (.int _) (vi_dp r)
theorem vi_all {W : Wd K T} {H : Hp} : ∀ l : List Nat, DAll W H (vI l) (l.map fun (j : Nat) => PyData.int j)
  | [] => .nil
  | x :: r => .cons (.int _) (vi_all r)
theorem vi_len (l : List Nat) : (vI l).length = l.length := List.length_map ..
theorem vi_erase : ∀ (l : List Nat) (k : Nat), (vI l).eraseIdx k = vI (l.eraseIdx k)
  | [], _ => rfl
  | x :: r, 0 => rfl
  | x :: r, k + 1 => by
    show V.int x :: (vI r).eraseIdx k = V.int x :: vI (r.eraseIdx k)
    rw [vi_erase r k]
theorem erase_perm : ∀ {l : List Nat} {k : Nat} (hk : k < l.length), (l[k] :: l.eraseIdx k).Perm l
  | [], _, hk => absurd hk (Nat.not_lt_zero _)
  | x :: r, 0, _ => List.Perm.refl _
  | x :: r, k + 1, hk => ((List.Perm.swap x (r[k]'(Nat.lt_of_succ_lt_succ hk)) (r.eraseIdx k)).trans ((erase_perm (Nat.lt_of_succ_lt_succ hk)).cons x))
/-- left != [] -/
theorem tf_left {K' : PySem.W.Frag} {i : Nat} {c : LP} {G : Dv.Ctx} (hi : G[i]? = some (some (.fn p1))) : TF (LTF W p1 p2 h1 h2) (tTest (tOp (rNeD K') (tVar i) (tLst tNil))) c G (!c.xs.isEmpty) := fun σ H s j n Q q => by
  have j : (LTW W p1 p2 h1 h2 c).J H := j
  obtain ⟨v, hv, h⟩ := s.at_ i _ hi
  cases h
  refine ⟨.ref p1, hv, Nat.zero_le _, fun p3 np3 => ?_⟩
  have e1 : H p1 = some (.lst (vI c.xs)) := (lt_at j).1
  have ne : p1 ≠ p3 := fun z => by rw [z, np3] at e1; cases e1
  refine ⟨.list (c.xs.map fun (j : Nat) => PyData.int j), .list [], .lst (SqL.of (by rw [upd_ne ne]; exact e1)) (vi_dp _), .lst (SqL.of upd_same) .nil, (sh_lst (k := 0) fun x hx => ?_).shaped (by decide), (sh_lst (k := 0) fun x hx => by cases hx).shaped (by decide), ?_⟩
  · obtain ⟨y, _, rfl⟩ := List.mem_map.mp hx
    exact sh_int
  · refine ⟨_, rfl, ?_⟩
    rw [eqv_nilL, List.isEmpty_map]
    exact q _ (.new np3) (j_new j np3)
/-- places.append(left.pop(taken(row, len(left)))) -/
theorem sf_move {K' : PySem.W.Frag} {i i2 : Nat} {c : LP} {G : Dv.Ctx} {Ech : XK} {En : EndF LP} (hr : G[1]? = some (some .row)) (hi : G[i]? = some (some (.fn p1))) (hi2 : G[i2]? = some (some (.fn p2))) (hx : c.xs.length ≤ 1000) (hy : c.ys.length ≤ 1000) (h0 : c.xs ≠ []) (k : ∀ k (hk : k < c.xs.length), En.nx ⟨c.xs.eraseIdx k, c.ys ++ [c.xs[k]]⟩ G) :
    SF (LTF W p1 p2 h1 h2) Ech (tDrop (tBM K' "list" rAppend (tVar i2) (tCons (tBM K' "list" rPopAt (tVar i) (tCons (tCall (sp_taken K T) [] E0 (tCons (tVar 1) (tCons (tCB (rLenQ K) (tCons (tVar i) tNil)) tNil))) tNil)) tNil))) c G En := fun D' σ H s j n o => by
  have j : (LTW W p1 p2 h1 h2 c).J H := j
  obtain ⟨e1, e2, ne⟩ := lt_at j
  obtain ⟨v, hv, h⟩ := s.at_ i _ hi
  cases h
  obtain ⟨v, hv2, h⟩ := s.at_ i2 _ hi2
  cases h
  obtain ⟨vr, hvr, hrow⟩ := s.at_ 1 _ hr
  have hpos : 0 < c.xs.length := List.length_pos_iff.mpr h0
  refine ⟨.ref p2, hv2, Or.inl ⟨rfl, _, SqL.of e2⟩, .ref p1, hv, Or.inl ⟨rfl, _, SqL.of e1⟩, vr, hvr, .ref p1, hv, p1, vI c.xs, rfl, .inl (SqL.of e1), LTW W p1 p2 h1 h2 c, [.row, .dat (.int (c.xs.length : Nat))], j, ?_, ⟨_, rfl, by omega, by omega⟩, fun u d H1 ex1 j1 du z => ?_⟩
  · rw [vi_len]
    exact .cons hrow (.cons (.dat (.int _)) .nil)
  · obtain ⟨kk, hk, rfl⟩ := z _ rfl
    obtain rfl := du.int_inv
    have hk : kk < c.xs.length := by omega
    have hkv : (vI c.xs)[kk]? = some (.int (c.xs[kk] : Nat)) := by
      unfold vI
      rw [List.getElem?_map, List.getElem?_eq_getElem hk]
      rfl
    have a1 := lt_at j1
    obtain ⟨j2, x2⟩ := lt_put1 (xs := c.xs.eraseIdx kk) j1
    obtain ⟨j3, x3⟩ := lt_put2 (ys := c.ys ++ [c.xs[kk]]) j2
    refine ⟨p1, vI c.xs, kk, kk, _, rfl, rfl, a1.1, by omega, by omega, ?_, hkv, p2, vI c.ys, _, rfl, rfl, ?_, ?_, ?_⟩
    · unfold seqIndex?
      rw [vi_len]
      simp
      omega
    · rw [upd_ne (Ne.symm ne)]
      exact a1.2.1
    · rw [vi_len]
      exact Nat.lt_of_le_of_lt hy (by decide)
    · rw [vi_erase]
      have ey : vI c.ys ++ [V.int (c.xs[kk] : Nat)] = vI (c.ys ++ [c.xs[kk]]) := by unfold vI; rw [List.map_append]; rfl
      rw [ey]
      have ex : Ex (LTW W p1 p2 h1 h2 c) H (upd (upd H1 p1 (.lst (vI (c.xs.eraseIdx kk)))) p2 (.lst (vI (c.ys ++ [c.xs[kk]])))) := (ex1.trans x2).trans ⟨x3.k⟩
      exact o.nx σ _ ⟨c.xs.eraseIdx kk, c.ys ++ [c.xs[kk]]⟩ G ex j3 trivial (Sl.to (W := LTW W p1 p2 h1 h2 c) (fun _ _ _ z => z) rfl (s.mono ex)) (k kk hk)
end
theorem pm_of {n : Nat} {pl : List Nat} (h : pl.Perm (List.range n)) : Pm n pl := ⟨by rw [h.length_eq, List.length_range], h.nodup_iff.mpr List.nodup_range, fun x hx => List.mem_range.mp (h.mem_iff.mp hx)⟩
abbrev tMoves (K : PySem.W.Frag) (T : List (Addr × Str)) (K' : PySem.W.Frag) (i i2 : Nat) : TS := tWhile (tTest (tOp (rNeD K') (tVar i) (tLst tNil))) (tDrop (tBM K' "list" rAppend (tVar i2) (tCons (tBM K' "list" rPopAt (tVar i) (tCons (tCall (sp_taken K T) [] E0 (tCons (tVar 1) (tCons (tCB (rLenQ K) (tCons (tVar i) tNil)) tNil))) tNil)) tNil)))
theorem s_places {K' K2 : PySem.W.Frag} {i i2 n : Nat} {tn : TE} {G : Dv.Ctx} {F : EndG} {u : TS} (hr : G[1]? = some (some .row)) (hi1 : i ≠ 1) (hi21 : i2 ≠ 1) (hii : i ≠ i2) (hi : i < G.length) (hi2 : i2 < G.length) (hn : n ≤ 1000) (he : E K T tn G (· = .int n))
    (k : ∀ pl, Pm n pl → S K T u ((G.set i (some (.dat (.list [])))).set i2 (some (.dat (.list (pl.map fun (j : Nat) => PyData.int j))))) F) :
    S K T (tSeq (tAsg (tTup (tCons (tLstRg (tRg1 tn)) (tCons (tLst tNil) tNil))) (gTup K2 2 (gCons (gName i) (gCons (gName i2) gNil)))) (tSeq (tMoves K T K' i i2) u)) G F := fun W D' σ H s j ok => by
  refine he W σ H s j _ fun v d H1 e1 j1 dv p => ?_
  subst p
  obtain rfl := dv.int_inv
  refine ⟨n, rfl, ⟨by omega, by omega⟩, fun p1 np1 => ⟨Nat.zero_le _, fun p2 np2 => ⟨by show 2 ≤ sizeLine; decide, fun p3 np3 => ⟨p3, [.ref p1, .ref p2], rfl, SqT.of upd_same, rfl, _, _, rfl, _, _, rfl, rfl, ?_⟩⟩⟩⟩
  have ne : p1 ≠ p2 := fun z => by rw [← z, upd_same] at np2; cases np2
  have x1 : ¬ W.X p1 := new_ne j1 np1
  have np2' : H1 p2 = none := by rwa [upd_ne (Ne.symm ne)] at np2
  have x2 : ¬ W.X p2 := new_ne j1 np2'
  have x2' : ¬ (W.X p2 ∨ p2 = p1) := fun z => z.elim x2 fun e => ne e.symm
  have erg : rgV 0 n = vI (List.range n) := by
    unfold rgV vI
    have : ((n : Int) - 0).toNat = n := by omega
    rw [this]
    exact List.map_congr_left fun j _ => by rw [Int.zero_add]
  rw [erg] at np2 np3 ⊢
  have jA0 : (LTW W p1 p2 x1 x2' ⟨List.range n, []⟩).J (upd (upd H1 p1 (.lst (vI (List.range n)))) p2 (.lst (vI []))) := by
    refine ⟨?_, upd_same⟩
    rw [del_updS, del_none np2]
    exact aside_new j1 np1
  have tA0 : Tr W (LTW W p1 p2 x1 x2' ⟨List.range n, []⟩) H (upd (upd H1 p1 (.lst (vI (List.range n)))) p2 (.lst (vI []))) := by
    refine ⟨rfl, fun a o h nt nx => ?_⟩
    have h' := e1.k a o h nt nx
    have n1 : a ≠ p1 := ne_of_none h' np1
    have n2 : a ≠ p2 := ne_of_none h' np2'
    refine ⟨by rw [upd_ne n2, upd_ne n1]; exact h', fun z => ?_⟩
    rcases z with (z | z) | z
    · exact nx z
    · exact n1 z
    · exact n2 z
  have np3' : upd (upd H1 p1 (.lst (vI (List.range n)))) p2 (.lst (vI [])) p3 = none := np3
  have jA : (LTW W p1 p2 x1 x2' ⟨List.range n, []⟩).J (upd (upd (upd H1 p1 (.lst (vI (List.range n)))) p2 (.lst (vI []))) p3 (.tup [.ref p1, .ref p2])) := j_new jA0 np3'
  have tA : Tr W (LTW W p1 p2 x1 x2' ⟨List.range n, []⟩) H (upd (upd (upd H1 p1 (.lst (vI (List.range n)))) p2 (.lst (vI []))) p3 (.tup [.ref p1, .ref p2])) := tA0.trans (Tr.of (.new np3'))
  have sA : Sl (LTW W p1 p2 x1 x2' ⟨List.range n, []⟩) (upd (upd (upd H1 p1 (.lst (vI (List.range n)))) p2 (.lst (vI []))) p3 (.tup [.ref p1, .ref p2])) ((List.set σ i (some (.ref p1))).set i2 (some (.ref p2))) ((G.set i (some (.fn p1))).set i2 (some (.fn p2))) := ((s.tr tA).set .fn).set .fn
  have g1 : ((G.set i (some (.fn p1))).set i2 (some (.fn p2)))[1]? = some (some .row) := by
    rw [List.getElem?_set_ne hi21, List.getElem?_set_ne hi1]
    exact hr
  have g2 : ((G.set i (some (.fn p1))).set i2 (some (.fn p2)))[i]? = some (some (.fn p1)) := by
    rw [List.getElem?_set_ne (Ne.symm hii), List.getElem?_set_self hi]
  have g3 : ((G.set i (some (.fn p1))).set i2 (some (.fn p2)))[i2]? = some (some (.fn p2)) := List.getElem?_set_self (by rw [List.length_set]; exact hi2)
  have loop : SF (LTF W p1 p2 x1 x2') E0 (tMoves K T K' i i2) ⟨List.range n, []⟩ ((G.set i (some (.fn p1))).set i2 (some (.fn p2))) { nx := fun c G' => c.xs = [] ∧ Pm n c.ys ∧ G' = (G.set i (some (.fn p1))).set i2 (some (.fn p2)) } := by
    refine sf_while (fun m c G' => c.xs.length = m ∧ (c.ys ++ c.xs).Perm (List.range n) ∧ G' = (G.set i (some (.fn p1))).set i2 (some (.fn p2))) (m0 := n) ⟨List.length_range, List.Perm.refl _, rfl⟩ ?_
    rintro m c G' ⟨hm, hp, rfl⟩
    have hl := hp.length_eq
    rw [List.length_append, List.length_range] at hl
    refine ⟨!c.xs.isEmpty, tf_left g2, fun hb => ?_, fun hb => ?_⟩
    · have h0 : c.xs ≠ [] := fun z => by rw [z] at hb; cases hb
      refine sf_move g1 g2 g3 (by omega) (by omega) h0 fun kk hk => ⟨m - 1, by omega, ?_, ?_, rfl⟩
      · show (c.xs.eraseIdx kk).length = m - 1
        rw [List.length_eraseIdx_of_lt hk, hm]
      · show ((c.ys ++ [c.xs[kk]]) ++ c.xs.eraseIdx kk).Perm (List.range n)
        rw [List.append_assoc]
        exact ((erase_perm hk).append_left c.ys).trans hp
    · have h0 : c.xs = [] := by simpa using hb
      refine ⟨h0, pm_of ?_, rfl⟩
      rw [h0, List.append_nil] at hp
      exact hp
  refine loop { D' with nx := u D' } _ _ sA jA trivial ⟨fun σ' H' c' G' e j' _ s' ⟨hx, hp, eG⟩ => ?_, fun _ _ _ _ _ _ _ _ f => f.elim, fun _ _ _ _ _ _ _ _ f => f.elim, fun _ _ _ _ _ _ _ _ f => f.elim, fun _ _ _ _ _ _ _ _ _ f => f.elim⟩
  subst eG
  have j' : (LTW W p1 p2 x1 x2' c').J H' := j'
  have a' := lt_at j'
  have eW : Ex W H H' := (tA.trans (Tr.of (W := LTW W p1 p2 x1 x2' ⟨List.range n, []⟩) e)).ex
  have toW : ∀ a o, H' a = some o → ¬ (LTW W p1 p2 x1 x2' c').X a → ¬ W.X a := fun a o h n z => n (.inl (.inl z))
  have sW : Sl W H' σ' ((G.set i (some (.fn p1))).set i2 (some (.fn p2))) := Sl.to (W := LTW W p1 p2 x1 x2' c') toW rfl s'
  obtain ⟨v, hv, hod⟩ := sW.at_ i _ g2
  cases hod with
  | fn =>
  obtain ⟨v2, hv2, hod⟩ := sW.at_ i2 _ g3
  cases hod with
  | fn =>
  have sW2 := sl_put (sl_put sW hv (.dat (.lst (ds := []) x1 (by rw [a'.1, hx]; rfl) .nil))) hv2 (.dat (.lst (ds := c'.ys.map fun (j : Nat) => PyData.int j) x2 a'.2.1 (vi_all _)))
  have eg : ((((G.set i (some (.fn p1))).set i2 (some (.fn p2))).set i (some (.dat (.list [])))).set i2 (some (.dat (.list (c'.ys.map fun (j : Nat) => PyData.int j))))) = (G.set i (some (.dat (.list [])))).set i2 (some (.dat (.list (c'.ys.map fun (j : Nat) => PyData.int j)))) := by
    rw [List.set_comm _ _ (Ne.symm hii), List.set_set, List.set_set]
  rw [eg] at sW2
  exact k c'.ys hp W D' σ' H' sW2 (aside_end (aside_end j')) (ok.mono eW)
end
end K17

namespace K17
open PySem PySem.Spec L2 Dv DvC DvT
open PyProof.Rows hiding St
section
variable {P : Program} {w : World} {K : PySem.W.Frag} {mg : Str → Option Value} {base : Heap} {T : List (Addr × Str)}
/-! the law's own word: try: found.append(work()), except ProbeError as e: .. -/
structure ETab (mg : Str → Option Value) (CE : Addr) (c : Nat → Addr) : Prop where
  e : mg "ProbeError" = some (.ref CE)
  v : mg "ValueError" = none
  m0 : mg "BadPlan" = some (.ref (c 0))
  m1 : mg "BadAnswers" = some (.ref (c 1))
  m2 : mg "BadChances" = some (.ref (c 2))
  m3 : mg "BadDeed" = some (.ref (c 3))
  m4 : mg "Halted" = some (.ref (c 4))
  m5 : mg "BadTree" = some (.ref (c 5))
  m6 : mg "BadText" = some (.ref (c 6))
  m7 : mg "BadLot" = some (.ref (c 7))
  m8 : mg "BadCount" = some (.ref (c 8))
  m9 : mg "NoLot" = some (.ref (c 9))
def needF (k : Nat) : List Str := if k = 4 then ["number", "done"] else if k = 6 then ["row"] else if k = 5 then ["way"] else if k < 4 then ["number"] else []
def kOf (c : Nat → Addr) (C : Addr) : Nat := ((List.range 10).findIdx? fun j => c j == C).getD 10
def wNames : List PyData := [.str "plan", .str "answers", .str "chances", .str "deed", .str "halted", .str "tree", .str "text", .str "lot", .str "count", .str "nolot"]
def fldD (fs : Option (List (Str × PyData))) (n : Str) : PyData := ((fs.getD []).lookup n).getD .none
def wordD (k : Nat) (fs : Option (List (Str × PyData))) : PyData :=
  .tuple [wNames.getD k .none, if k = 4 then .tuple [fldD fs "number", fldD fs "done"] else if k = 6 then fldD fs "row" else if k = 5 then fldD fs "way" else if k < 4 then fldD fs "number" else .none]
/-- what the text says of the k-th class -/
structure EKk (K : PySem.W.Frag) (CE : Addr) (c : Nat → Addr) (k : Nat) : Prop where
  kk : kOf c (c k) = k
  x : ExcC K (c k)
  f : XfC K (c k)
  is : ∀ j, j < 10 → PySem.W.kitOne K (.ref (c k)) (.ref (c j)) = some (decide (j = k))
  v : PySem.W.kitOne K (.ref (c k)) (.type "ValueError") = some true
  m : PySem.W.exmOne K (.ref (c k)) (.ref CE) = some true
  n : ∀ n ∈ needF k, PySem.W.findIn K (.ref (c k)) n = some none
def okX (K : PySem.W.Frag) (CE : Addr) (c : Nat → Addr) (x : Xd) : Prop := ∃ k, k < 10 ∧ x.C = c k ∧ EKk K CE c k ∧ ∀ n ∈ needF k, ∃ l v, x.fs = some l ∧ l.lookup n = some v
def wdX (c : Nat → Addr) (x : Xd) : PyData := wordD (kOf c x.C) x.fs
theorem bt_VE : bootBuiltins "ValueError" = some (.type "ValueError") := by decide +kernel
abbrev nWord : List Str := ["_law_work", "_law_found", "e", "_law_sorts", "_law_names", "_law_name"]
theorem sc__law_word : FnScope nWord ["_law_work"] (defScope s__law_word) := ⟨rfl, rfl, rfl, by decide +kernel, rfl, by decide +kernel, by decide +kernel⟩
def sortsD (k : Nat) : List PyData := (List.range 10).map fun j => .bool (decide (j = k))
theorem sorts_cnt : ∀ k, k < 10 → ((sortsD k).countP fun z => PyData.eqv z (.bool true)) = 1 := by decide +kernel
theorem sorts_flat (k : Nat) : (sortsD k).all flatD = true := rfl
theorem sorts_at : ∀ k, k < 10 → (sortsD k)[k]? = some (.bool true)
  | 0, _ | 1, _ | 2, _ | 3, _ | 4, _ | 5, _ | 6, _ | 7, _ | 8, _ | 9, _ => rfl
  | k + 10, h => absurd h (by omega)
theorem sorts_no : ∀ k, k < 10 → ∀ m, m < k → ∀ z ∈ (sortsD k)[m]?, PyData.eqv z (.bool true) = false := by decide +kernel
theorem names_at : ∀ k, k < 10 → wNames[k]? = some (wNames.getD k .none)
  | 0, _ | 1, _ | 2, _ | 3, _ | 4, _ | 5, _ | 6, _ | 7, _ | 8, _ | 9, _ => rfl
  | k + 10, h => absurd h (by omega)
theorem names_str : ∀ k, k < 10 → ∃ x : Str, wNames.getD k .none = .str x ∧ (x == "halted") = decide (k = 4) ∧ (x == "text") = decide (k = 6) ∧ (x == "tree") = decide (k = 5) ∧ ((wNames.take 4).any fun z => PyData.eqv z (.str x)) = decide (k < 4)
  | 0, _ => ⟨"plan", rfl, by decide +kernel, by decide +kernel, by decide +kernel, by decide +kernel⟩
  | 1, _ => ⟨"answers", rfl, by decide +kernel, by decide +kernel, by decide +kernel, by decide +kernel⟩
  | 2, _ => ⟨"chances", rfl, by decide +kernel, by decide +kernel, by decide +kernel, by decide +kernel⟩
  | 3, _ => ⟨"deed", rfl, by decide +kernel, by decide +kernel, by decide +kernel, by decide +kernel⟩
  | 4, _ => ⟨"halted", rfl, by decide +kernel, by decide +kernel, by decide +kernel, by decide +kernel⟩
  | 5, _ => ⟨"tree", rfl, by decide +kernel, by decide +kernel, by decide +kernel, by decide +kernel⟩
  | 6, _ => ⟨"text", rfl, by decide +kernel, by decide +kernel, by decide +kernel, by decide +kernel⟩
  | 7, _ => ⟨"lot", rfl, by decide +kernel, by decide +kernel, by decide +kernel, by decide +kernel⟩
  | 8, _ => ⟨"count", rfl, by decide +kernel, by decide +kernel, by decide +kernel, by decide +kernel⟩
  | 9, _ => ⟨"nolot", rfl, by decide +kernel, by decide +kernel, by decide +kernel, by decide +kernel⟩
  | k + 10, h => absurd h (by omega)
theorem e_fld {K' : PySem.W.Frag} {G : Dv.Ctx} {i : Nat} {a C : Addr} {c : Value} {d : Option Addr} {fs : Option (List (Str × PyData))} {n : Str} (hg : G[i]? = some (some (.exc a c d ⟨C, fs⟩))) (hX : XfC K' C) (hn : PySem.W.findIn K' (.ref C) n = some none) (hl : ∃ l v, fs = some l ∧ l.lookup n = some v) :
    E K T (tXfA K' a c d n (tVar i)) G (· = fldD fs n) := by
  obtain ⟨l, v, rfl, h⟩ := hl
  refine E.is (e_xf hg hX hn h) ?_
  show v = (l.lookup n).getD .none
  rw [h] <;> rfl
def wSuite : List Stmt := match (defBody s__law_word)[1]? with
  | some (Stmt.Try _ [ExceptHandler.ExceptHandler _ _ b _] _ _ _) => b
  | _ => []
theorem suite_ok {c : Nat → Addr} {CE : Addr} (Xt : Txt mg) (Te : ETab mg CE c) {g : Addr} {cdg : Value} {A : Around} {outer : List Env} {s : Shared} {H : Hp} : ∃ ts : Addr → Value → Option Addr → TS,
    (∀ (a : Addr) (oe : Obj) (cls : Value) (d : Option Addr) (pn : List (Addr × Obj)), Zc cls d oe → (∃ vs, oe.data = .fields vs) → PSs ((cxOf C8.CX0 P w K mg base nWord "_law_word" (defScope s__law_word) g cdg A outer s H C8.E0).nox.suite a ((a, oe) :: pn)) (wSuite) (ts a cls d)) ∧
    ∀ (a : Addr) (cls : Value) (d : Option Addr) (x : Xd), okX K CE c x → S K T (ts a cls d) [none, none, some (.exc a cls d x), none, none, none] { rt := (· = wdX c x) } := by
  refine ⟨_, fun a oe cls d pn hz hf => (pss_cons (ps_set (i := 3) sc__law_word.nd rfl (by first | exact Or.inl rfl | exact Or.inr rfl) (pe_lst (pa_cons (pe_callB (r := rIsX K a cls d) (call_isX hz hf) (by rfl) Xt.isinstance bt_isinstance (pa_cons (pv 2) (pa_cons (pe_glob (v := .ref (c 0)) (by rfl) Te.m0 rfl) pa_nil))) (pa_cons (pe_callB (r := rIsX K a cls d) (call_isX hz hf) (by rfl) Xt.isinstance bt_isinstance (pa_cons (pv 2) (pa_cons (pe_glob (v := .ref (c 1)) (by rfl) Te.m1 rfl) pa_nil))) (pa_cons (pe_callB (r := rIsX K a cls d) (call_isX hz hf) (by rfl) Xt.isinstance bt_isinstance (pa_cons (pv 2) (pa_cons (pe_glob (v := .ref (c 2)) (by rfl) Te.m2 rfl) pa_nil))) (pa_cons (pe_callB (r := rIsX K a cls d) (call_isX hz hf) (by rfl) Xt.isinstance bt_isinstance (pa_cons (pv 2) (pa_cons (pe_glob (v := .ref (c 3)) (by rfl) Te.m3 rfl) pa_nil))) pa_nil))))))
      (pss_cons (ps_set (i := 3) sc__law_word.nd rfl (by first | exact Or.inl rfl | exact Or.inr rfl) (pe_op (r := rCat) op_cat (pv 3) (pe_lst (pa_cons (pe_callB (r := rIsX K a cls d) (call_isX hz hf) (by rfl) Xt.isinstance bt_isinstance (pa_cons (pv 2) (pa_cons (pe_glob (v := .ref (c 4)) (by rfl) Te.m4 rfl) pa_nil))) (pa_cons (pe_callB (r := rIsX K a cls d) (call_isX hz hf) (by rfl) Xt.isinstance bt_isinstance (pa_cons (pv 2) (pa_cons (pe_glob (v := .ref (c 5)) (by rfl) Te.m5 rfl) pa_nil))) (pa_cons (pe_callB (r := rIsX K a cls d) (call_isX hz hf) (by rfl) Xt.isinstance bt_isinstance (pa_cons (pv 2) (pa_cons (pe_glob (v := .ref (c 6)) (by rfl) Te.m6 rfl) pa_nil))) (pa_cons (pe_callB (r := rIsX K a cls d) (call_isX hz hf) (by rfl) Xt.isinstance bt_isinstance (pa_cons (pv 2) (pa_cons (pe_glob (v := .ref (c 7)) (by rfl) Te.m7 rfl) pa_nil))) pa_nil)))))))
      (pss_cons (ps_set (i := 3) sc__law_word.nd rfl (by first | exact Or.inl rfl | exact Or.inr rfl) (pe_op (r := rCat) op_cat (pv 3) (pe_lst (pa_cons (pe_callB (r := rIsX K a cls d) (call_isX hz hf) (by rfl) Xt.isinstance bt_isinstance (pa_cons (pv 2) (pa_cons (pe_glob (v := .ref (c 8)) (by rfl) Te.m8 rfl) pa_nil))) (pa_cons (pe_callB (r := rIsX K a cls d) (call_isX hz hf) (by rfl) Xt.isinstance bt_isinstance (pa_cons (pv 2) (pa_cons (pe_glob (v := .ref (c 9)) (by rfl) Te.m9 rfl) pa_nil))) pa_nil)))))
      (pss_cons (ps_set (i := 4) sc__law_word.nd rfl (by first | exact Or.inl rfl | exact Or.inr rfl) (pe_lst (pa_cons pe_str (pa_cons pe_str (pa_cons pe_str (pa_cons pe_str (pa_cons pe_str (pa_cons pe_str (pa_cons pe_str (pa_cons pe_str (pa_cons pe_str (pa_cons pe_str pa_nil))))))))))))
      (pss_cons (ps_if (PW.pt (pw_or (pt_cmpR op_ne (show PE _ _ (tBM K "list" (rCntF K) (tVar 3) (tCons (tC (.bl true)) tNil)) from pe_bm (X := (cxOf C8.CX0 P w K mg base nWord "_law_word" (defScope s__law_word) g cdg A outer s H C8.E0).nox.suite a ((a, oe) :: pn)) PySem.F.plainAttrs_list PySem.F.slot_list_count PySem.F.type_list_count mt_cntF (pv 3) (pa_cons pe_bl pa_nil) (hline := ?h1)) pe_int (nomark _)) (pw_or1 (pt_not (pt_val (pe_callB (r := rIsX K a cls d) (call_isX hz hf) (by rfl) Xt.isinstance bt_isinstance (pa_cons (pv 2) (pa_cons (pe_bltn (v := .ty "ValueError") (by rfl) Te.v bt_VE rfl) pa_nil)))))))) (pss_one (ps_ret (pe_tup (pa_cons pe_str (pa_cons pe_non pa_nil))))) pss_nil)
      (pss_cons (ps_set (i := 5) sc__law_word.nd rfl (by first | exact Or.inl rfl | exact Or.inr rfl) (pe_ix (r := rIxL K) ix_list (pv 4) (show PE _ _ (tBM K "list" (rIndex K) (tVar 3) (tCons (tC (.bl true)) tNil)) from pe_bm (X := (cxOf C8.CX0 P w K mg base nWord "_law_word" (defScope s__law_word) g cdg A outer s H C8.E0).nox.suite a ((a, oe) :: pn)) PySem.F.plainAttrs_list PySem.F.slot_list_index PySem.F.type_list_index mt_index (pv 3) (pa_cons pe_bl pa_nil) (hline := ?h2)) (fun _ _ => rfl)))
      (pss_cons (ps_if (pt_cmpR op_eq (pv 5) pe_str (nomark _)) (pss_one (ps_ret (pe_tup (pa_cons (pv 5) (pa_cons (pe_tup (pa_cons (pe_xfA hz hf (pv 2)) (pa_cons (pe_xfA hz hf (pv 2)) pa_nil))) pa_nil))))) pss_nil)
      (pss_cons (ps_if (pt_cmpR op_eq (pv 5) pe_str (nomark _)) (pss_one (ps_ret (pe_tup (pa_cons (pv 5) (pa_cons (pe_xfA hz hf (pv 2)) pa_nil))))) pss_nil)
      (pss_cons (ps_if (pt_cmpR op_eq (pv 5) pe_str (nomark _)) (pss_one (ps_ret (pe_tup (pa_cons (pv 5) (pa_cons (pe_xfA hz hf (pv 2)) pa_nil))))) pss_nil)
      (pss_one (ps_ret (pe_ifExp (pt_cmpR (r := rIn K false) op_in_seq (pv 5) (pe_slice (r := rSlL K) sl_list (pv 4) po_none (po_some pe_int)) (by rfl)) (pe_tup (pa_cons (pv 5) (pa_cons (pe_xfA hz hf (pv 2)) pa_nil))) (pe_tup (pa_cons (pv 5) (pa_cons pe_non pa_nil))))))))))))))), ?_⟩
  case h1 => rfl
  case h2 => rfl
  rintro a cls d x ⟨k, hk, hC, h, hn⟩
  obtain ⟨C, fs⟩ := x
  dsimp only at hC hn
  subst hC
  have is : ∀ (j : Nat) (G : Dv.Ctx), j < 10 → G[2]? = some (some (.exc a cls d ⟨c k, fs⟩)) → E K T (tCB (rIsX K a cls d) (tCons (tVar 2) (tCons (tC (.ref (c j))) tNil))) G (· = .bool (decide (j = k))) := fun j G hj hg => e_isX hg (fun u r => r) h.x (h.is j hj)
  have iv : ∀ (G : Dv.Ctx), G[2]? = some (some (.exc a cls d ⟨c k, fs⟩)) → E K T (tCB (rIsX K a cls d) (tCons (tVar 2) (tCons (tC (.ty "ValueError")) tNil))) G (· = .bool true) := fun G hg => e_isX (cv := .type "ValueError") hg (fun u r => r) h.x h.v
  have fl : ∀ (n : Str) (G : Dv.Ctx), n ∈ needF k → G[2]? = some (some (.exc a cls d ⟨c k, fs⟩)) → E K T (tXfA K a cls d n (tVar 2)) G (· = fldD fs n) := fun n G hm hg => e_fld hg h.f (h.n n hm) (hn n hm)
  have hw : wdX c ⟨c k, fs⟩ = wordD k fs := by
    show wordD (kOf c (c k)) fs = _
    rw [h.kk]
  rw [hw]
  refine s_seq (s_asg (EL.is (el_lst (ds := [.bool (decide (0 = k)), .bool (decide (1 = k)), .bool (decide (2 = k)), .bool (decide (3 = k))]) (a_cons (is 0 _ (by omega) rfl) (a_cons (is 1 _ (by omega) rfl) (a_cons (is 2 _ (by omega) rfl) (a_cons (is 3 _ (by omega) rfl) a_nil)))) (by show 4 ≤ 100000; decide))) ?_)
  refine s_seq (s_asg (EL.is (el_cat e_var (EL.is (el_lst (ds := [.bool (decide (4 = k)), .bool (decide (5 = k)), .bool (decide (6 = k)), .bool (decide (7 = k))]) (a_cons (is 4 _ (by omega) rfl) (a_cons (is 5 _ (by omega) rfl) (a_cons (is 6 _ (by omega) rfl) (a_cons (is 7 _ (by omega) rfl) a_nil)))) (by show 4 ≤ 100000; decide))) (by show 8 ≤ 100000; decide))) ?_)
  refine s_seq (s_asg (d := .list (sortsD k)) (E.is (EL.is (el_cat e_var (EL.is (el_lst (ds := [.bool (decide (8 = k)), .bool (decide (9 = k))]) (a_cons (is 8 _ (by omega) rfl) (a_cons (is 9 _ (by omega) rfl) a_nil)) (by show 2 ≤ 100000; decide))) (by show 10 ≤ 100000; decide))) rfl) ?_)
  refine s_seq (s_asg (d := .list wNames) (EL.is (el_lst (ds := wNames) (a_cons e_str (a_cons e_str (a_cons e_str (a_cons e_str (a_cons e_str (a_cons e_str (a_cons e_str (a_cons e_str (a_cons e_str (a_cons e_str a_nil)))))))))) (by decide))) ?_)
  have one : eqD (.int ((sortsD k).countP fun z => PyData.eqv z (.bool true) : Nat)) (.int 1) = true := by
    rw [sorts_cnt k hk]
    rfl
  refine s_seq (s_if (t_or (a := false) (b := false) (t_B (E.is (e_ne (e_count rfl e_bl rfl (sorts_flat k)) e_int rfl) (by rw [one]; rfl))) fun _ => t_not (t_B (iv _ rfl))) (fun z => by cases z) fun _ => s_next ?_)
  obtain ⟨nx, hx, x4, x6, x5, x3⟩ := names_str k hk
  have en := E.is (T := T) (e_ixL (K' := K) (K := K) (T := T) (ds := wNames) (i := k) (d := wNames.getD k .none) (e_var (G := [none, none, some (.exc a cls d ⟨c k, fs⟩), some (.dat (.list (sortsD k))), some (.dat (.list wNames)), none]) (i := 4)) (e_index (i := 3) (k := k) (ds := sortsD k) rfl e_bl rfl (sorts_flat k) (sorts_at k hk) rfl (fun m z hm hz => sorts_no k hk m hm z hz)) (names_at k hk)) hx
  refine s_seq (s_asg en ?_)
  have wd : ∀ r, (r = if k = 4 then PyData.tuple [fldD fs "number", fldD fs "done"] else if k = 6 then fldD fs "row" else if k = 5 then fldD fs "way" else if k < 4 then fldD fs "number" else .none) → PyData.tuple [.str nx, r] = wordD k fs := fun r e => by
    unfold wordD
    rw [e, hx]
  refine s_seq (s_if (t_B (E.is (e_eq e_var e_str rfl) (congrArg PyData.bool (show eqD (.str nx) (.str "halted") = decide (k = 4) from x4)))) (fun z => ?_) fun z => s_next ?_)
  · have z := of_decide_eq_true z
    refine s_ret (e_tup (ds := [.str nx, .tuple [fldD fs "number", fldD fs "done"]]) (a_cons e_var (a_cons (e_tup (ds := [fldD fs "number", fldD fs "done"]) (a_cons (fl _ _ (by rw [z]; decide) rfl) (a_cons (fl _ _ (by rw [z]; decide) rfl) a_nil)) (by show 2 ≤ 100000; decide)) a_nil)) (by show 2 ≤ 100000; decide)) (wd _ (by rw [if_pos z]))
  have n4 := of_decide_eq_false z
  refine s_seq (s_if (t_B (E.is (e_eq e_var e_str rfl) (congrArg PyData.bool (show eqD (.str nx) (.str "text") = decide (k = 6) from x6)))) (fun z => ?_) fun z => s_next ?_)
  · have z := of_decide_eq_true z
    exact s_ret (e_tup (ds := [.str nx, fldD fs "row"]) (a_cons e_var (a_cons (fl _ _ (by rw [z]; decide) rfl) a_nil)) (by show 2 ≤ 100000; decide)) (wd _ (by rw [if_neg n4, if_pos z]))
  have n6 := of_decide_eq_false z
  refine s_seq (s_if (t_B (E.is (e_eq e_var e_str rfl) (congrArg PyData.bool (show eqD (.str nx) (.str "tree") = decide (k = 5) from x5)))) (fun z => ?_) fun z => s_next ?_)
  · have z := of_decide_eq_true z
    exact s_ret (e_tup (ds := [.str nx, fldD fs "way"]) (a_cons e_var (a_cons (fl _ _ (by rw [z]; decide) rfl) a_nil)) (by show 2 ≤ 100000; decide)) (wd _ (by rw [if_neg n4, if_neg n6, if_pos z]))
  have n5 := of_decide_eq_false z
  have e3 : (if false = true then !((wNames.take 4).any fun z => PyData.eqv z (.str nx)) else ((wNames.take 4).any fun z => PyData.eqv z (.str nx))) = decide (k < 4) := x3
  refine s_retP (e_if (P := (· = wordD k fs)) (t_B (E.is (e_inSeq e_var (EL.is (el_slTo (k := 4) (ds := wNames) e_var e_int)) (.inl rfl) rfl (by decide)) (congrArg PyData.bool e3))) (fun z => ?_) fun z => ?_) fun r e => e
  · have z := of_decide_eq_true z
    exact E.is (e_tup (ds := [.str nx, fldD fs "number"]) (a_cons e_var (a_cons (fl _ _ (by unfold needF; rw [if_neg n4, if_neg n6, if_neg n5, if_pos z]; decide) rfl) a_nil)) (by show 2 ≤ 100000; decide)) (wd _ (by rw [if_neg n4, if_neg n6, if_neg n5, if_pos z]))
  · have z := of_decide_eq_false z
    exact E.is (e_tup (ds := [.str nx, .none]) (a_cons e_var (a_cons e_non a_nil)) (by show 2 ≤ 100000; decide)) (wd _ (by rw [if_neg n4, if_neg n6, if_neg n5, if_neg z]))
end
end K17

namespace K17
open PySem PySem.Spec L2 Dv DvC DvT
open PyProof.Rows hiding St
section
variable {P : Program} {w : World} {K : PySem.W.Frag} {mg : Str → Option Value} {base : Heap} {T : List (Addr × Str)}
theorem sl_none {W : Wd K T} {H : Hp} {σ : L2.St} {n : Nat} (h : σ.length = n) : Sl W H σ (List.replicate n none) := ⟨by rw [List.length_replicate, h], fun i o e => by
  rw [List.getElem?_replicate] at e
  split at e <;> cases e⟩
theorem word_gives {X : Cx} {c : Nat → Addr} {CE g : Addr} {cdg : Value} {q : Str} (Xt : Txt X.mg) (Te : ETab X.mg CE c) : LamX.GivesTo X nWord "_law_word" (defScope s__law_word) g cdg (defBody s__law_word) "_law_work" q (TTw X.K T (okX X.K CE c) (wdX c)) := by
  intro f c' s H Q tl act hc h
  obtain ⟨ts, hts, hsu⟩ := suite_ok (P := X.prog) (w := X.w) (K := X.K) (base := X.base) (T := T) Xt Te (g := g) (cdg := cdg) (A := X.A) (outer := X.stack) (s := s) (H := H)
  refine ⟨_, (pss_cons (ps_set (i := 1) sc__law_word.nd rfl (by first | exact Or.inl rfl | exact Or.inr rfl) (pe_lst pa_nil))
    (pss_cons (ps_try_as (X := (cxOf C8.CX0 X.prog X.w X.K X.mg X.base nWord "_law_word" (defScope s__law_word) g cdg X.A X.stack s H C8.E0).nox) (i := 2) (c := .ref CE)
      (tb := fun W => tDrop (tBM X.K "list" rAppend (tVar 1) (tCons (fun σZ HZ Q => σZ[0]? = some (some (.ref f)) ∧ HZ c' = some (LamX.CodeO c' q) ∧ tl (fun cls d H' => ∀ σ' : L2.St, σ'.length = 6 → W cls d σ' H') HZ Q) tNil)))
      rfl rfl sc__law_word.nd rfl rfl ⟨(by rfl), (by decide), .inl Te.e⟩ takes0 (fun W pn xe tk _ => ?_) hts)
    (pss_one (ps_ret (pe_tup (pa_cons pe_str (pa_cons (pe_ix (r := rIxL X.K) (ix_list (X := (cxOf C8.CX0 X.prog X.w X.K X.mg X.base nWord "_law_word" (defScope s__law_word) g cdg X.A X.stack s H C8.E0).nox)) (pv 1) pe_int (fun _ _ => rfl)) pa_nil))))))), ?_⟩
  · exact pss_one (ps_expr (pe_bm PySem.F.plainAttrs_list PySem.F.slot_list_append PySem.F.type_list_append mt_append (pv 1) (pa_cons (act (fun c d σ H => σ.length = 6 → W c d σ H) pn xe _ _ _ (takes_len tk) (fun cls d σ' H' h hl => h σ' hl)) pa_nil)))
  obtain ⟨W, P, Xs, j, h1, hok, hq⟩ := h
  refine ⟨Nat.zero_le _, fun p np => ?_⟩
  have hp : ¬ W.X p := new_ne j np
  have np' : c' ≠ p := ne_of_none hc np
  refine ⟨.ref p, rfl, Or.inl ⟨rfl, [], SqL.of upd_same⟩, ⟨rfl, by rw [upd_ne np']; exact hc, ?_⟩⟩
  have out : ∀ (b : Addr) (o : HO), ∀ {H1 : Hp}, H1 b = some o → ¬ (W.hide p hp []).X b → ¬ W.X b := fun b o H1 _ n z => n (.inl z)
  refine h1 p hp np _ _ (fun v d H' e j' dv pd => ?_) fun cls d x H' e j' dx px => ?_
  · -- it told something
    refine ⟨p, [], v, rfl, rfl, j'.2, by show 0 < sizeLine; decide, ?_⟩
    have eW : Ex W H H' := hide_ex np ((Ex.new np).trans e)
    have e2 : Ex W H (upd H' p (.lst ([] ++ [v]))) := Ex.mut (.refl H) np eW
    have j2 : W.J (upd H' p (.lst ([] ++ [v]))) := W.ju j'.1 (.inr (.inl ⟨[], j'.2⟩)) hp
    have d2 : D W (upd H' p (.lst ([] ++ [v]))) v d := (dv.mono (Ex.out (W := W.hide p hp []) (.refl H') (Or.inr rfl : W.X p ∨ p = p))).to fun b o h n => out b o h n
    have s1 : Sl W (upd H' p (.lst ([] ++ [v]))) ((L2.start nWord [V.ref f]).set 1 (some (V.ref p))) ((List.replicate 6 none).set 1 (some (.dat (.list [d])))) := (sl_none rfl).set (.dat (.lst hp upd_same (.one d2)))
    exact s_ret (K := X.K) (T := T) (G := (List.replicate 6 none).set 1 (some (.dat (.list [d])))) (F := { rt := (· = .tuple [.str "", d]) }) (e_tup (ds := [.str "", d]) (a_cons e_str (a_cons (e_ixL (K' := X.K) (ds := [d]) (i := 0) e_var e_int rfl) a_nil)) (by show 2 ≤ 100000; decide)) rfl W _ _ _ s1 j2
      ⟨fun _ _ _ _ _ _ f => f.elim, fun v r H2 e3 j3 dv3 f => hq v r H2 (e2.trans e3) j3 dv3 (.inl ⟨d, pd, f⟩), fun _ _ _ _ _ _ _ _ _ f => f.elim, fun _ _ _ _ _ _ f => f.elim, fun _ _ _ _ _ _ f => f.elim⟩
  · -- it let an exception out
    intro σ' hl
    have eW : Ex W H H' := hide_ex np ((Ex.new np).trans e)
    have ok := hok x px
    obtain ⟨k, hk, hC, hE, hn⟩ := id ok
    have dx' : XD W H' cls d x := dx.to fun b o h n => out b o h n
    have ec : cls = .ref (c k) := by
      rw [← hC]
      cases dx <;> rfl
    refine ⟨true, by rw [ec]; exact hE.m, fun _ a na => ?_, fun z => by cases z⟩
    have s1 : Sl W H' (σ'.set 2 (some (V.ref a))) ((List.replicate 6 none).set 2 (some (.exc a cls d x))) := (sl_none hl).set (.exc dx')
    exact hsu a cls d x ok W _ _ _ s1 j'.1
      ⟨fun _ _ _ _ _ _ f => f.elim, fun v r H2 e3 j3 dv3 f => hq v r H2 (eW.trans e3) j3 dv3 (.inr ⟨x, px, f⟩), fun _ _ _ _ _ _ _ _ _ f => f.elim, fun _ _ _ _ _ _ f => f.elim, fun _ _ _ _ _ _ f => f.elim⟩
end
end K17

namespace K17
open PySem PySem.Spec L2 Dv DvC DvT
open PyProof.Rows hiding St
section
variable {P : Program} {w : World} {K : PySem.W.Frag} {mg : Str → Option Value} {base : Heap} {T : List (Addr × Str)}
/-! words for the law -/
theorem el_lstP {G : Dv.Ctx} {R : List PyData → Prop} {tr : TA} (h : EA K T tr G (fun os => ∃ ds, os = dats ds ∧ R ds)) (hl : ∀ ds, R ds → ds.length ≤ 100000) : EL K T (tLst tr) G R := fun W σ H s j Q q => h W σ H s j _ fun vs os H1 e1 j1 dv ⟨ds, e, r⟩ => by
  subst e
  have a := all_of dv
  exact ⟨Nat.le_trans (by rw [a.length]; exact hl ds r) (by decide), fun x hx => q _ _ _ _ ((Fr.new hx).pre e1) (j_new j1 hx) (new_ne j1 hx) upd_same (a.mono (.new hx)) r⟩
theorem e_ixLR {G : Dv.Ctx} {K' : PySem.W.Frag} {ta tb : TE} {R : List PyData → Prop} {n : Nat} {P : PyData → Prop} (ha : E K T ta G (fun d => ∃ ds, d = .list ds ∧ R ds)) (hb : E K T tb G (fun d => ∃ i : Nat, (i : Int) < n ∧ d = .int i)) (hP : ∀ ds, R ds → ds.length = n ∧ ∀ d ∈ ds, P d) : E K T (tOp (rIxL K') ta tb) G P := e_op ha hb fun W H x y d' e' jh dx dy px py Q q => by
  obtain ⟨ds, rfl, r⟩ := px
  obtain ⟨i, hi, rfl⟩ := py
  obtain ⟨hl, hp⟩ := hP ds r
  have hi : i < ds.length := by omega
  obtain ⟨a, xs, rfl, nx, ha, al⟩ := dx.lst_inv
  cases dy.int_inv
  obtain ⟨v, h1, h2⟩ := al.get (List.getElem?_eq_getElem hi)
  exact ⟨a, xs, i, v, rfl, rfl, SqL.of ha, atI_nat h1, q _ _ H (.refl H) jh h2 (hp _ (List.getElem_mem hi))⟩
theorem e_op2P {G : Dv.Ctx} {ta tb : TE} {g : Int → Int → Int} {P Q : Int → Prop} (ha : E K T ta G (fun d => ∃ i, d = .int i ∧ P i)) (hb : E K T tb G (fun d => ∃ i, d = .int i ∧ Q i)) : E K T (tOp (rI0 fun i j => .int (g i j)) ta tb) G (fun d => ∃ i j, d = .int (g i j) ∧ P i ∧ Q j) := e_op ha hb fun W H x y d e jh dx dy px py Q q => by
  obtain ⟨i, rfl, hi⟩ := px
  obtain ⟨k, rfl, hk⟩ := py
  exact ⟨i, k, dx.int_inv, dy.int_inv, q _ _ H (.refl H) jh (.int _) ⟨i, k, rfl, hi, hk⟩⟩
theorem e_mul2P {G : Dv.Ctx} {ta tb : TE} {P Q : Int → Prop} (ha : E K T ta G (fun d => ∃ i, d = .int i ∧ P i)) (hb : E K T tb G (fun d => ∃ i, d = .int i ∧ Q i)) (hc : ∀ i j, P i → Q j → CMul i j) : E K T (tOp (rI CMul fun i j => .int (i * j)) ta tb) G (fun d => ∃ i j, d = .int (i * j) ∧ P i ∧ Q j) := e_op ha hb fun W H x y d e jh dx dy px py Q q => by
  obtain ⟨i, rfl, hi⟩ := px
  obtain ⟨k, rfl, hk⟩ := py
  exact ⟨i, k, dx.int_inv, dy.int_inv, hc i k hi hk, q _ _ H (.refl H) jh (.int _) ⟨i, k, rfl, hi, hk⟩⟩
theorem e_take {G : Dv.Ctx} {n : Int} (hr : G[1]? = some (some .row)) (h0 : 0 < n) (h1 : n ≤ 1000) : E K T (tCall (sp_taken K T) [] E0 (tCons (tVar 1) (tCons (tC (.int n)) tNil))) G (fun d => ∃ k : Nat, (k : Int) < n ∧ d = .int k) :=
  e_call (os := [.row, .dat (.int n)]) (a_row (a_cons e_int a_nil) hr) ⟨n, rfl, h0, h1⟩ fun d p => p n rfl
theorem e_neSame {G : Dv.Ctx} {K' : PySem.W.Frag} {ta tb : TE} {d : PyData} {k : Nat} (ha : E K T ta G (· = d)) (hb : E K T tb G (· = d)) (h : Sh k d) (hk : k ≤ 64) : E K T (tOp (rNeD K') ta tb) G (· = .bool false) := E.is (e_neD ha hb (h.shaped hk) (h.shaped hk)) (by rw [PySem.SeqAt.eqv_refl d h.1]; rfl)
theorem el_listT {G : Dv.Ctx} {K' : PySem.W.Frag} {tr : TA} {ds : List PyData} (h : EA K T tr G (· = [.dat (.tuple ds)])) : EL K T (tCB (rLstQ K') tr) G (· = ds) := fun W σ H s j Q q => h W σ H s j _ fun vs os H1 e1 j1 dv p => by
  subst p
  have al := all_of (ds := [.tuple ds]) dv
  cases al with
  | cons dw al =>
  cases al
  obtain ⟨a, xs, rfl, nx, ha, al⟩ := dw.tup_inv
  exact ⟨a, xs, rfl, .inr (SqT.of ha), fun l hl => q l xs ds _ ((Fr.new hl).pre e1) (j_new j1 hl) (new_ne j1 hl) upd_same (al.mono (.new hl)) rfl⟩

theorem e_tup2P {G : Dv.Ctx} {ta tb : TE} {P Q : PyData → Prop} (ha : E K T ta G P) (hb : E K T tb G Q) : E K T (tTup (tCons ta (tCons tb tNil))) G (fun d => ∃ a b, d = .tuple [a, b] ∧ P a ∧ Q b) := fun W σ H s j Q' q => ha W σ H s j _ fun v d H1 e1 j1 dv p => hb W σ H1 (s.mono e1) j1 _ fun u e H2 e2 j2 du pu =>
  ⟨Nat.le_trans (show 2 ≤ 100000 by decide) (by decide), fun x hx => q _ _ _ ((e1.trans e2).trans (.new hx)) (j_new j2 hx) (.tup (new_ne j2 hx) upd_same (.cons ((dv.mono e2).mono (.new hx)) (.cons (du.mono (.new hx)) .nil))) ⟨d, e, rfl, p, pu⟩⟩

theorem e_callXD {G : Dv.Ctx} {tr : TA} {os : List Ob} {P : PyData → Prop} {pre : List Ob → Prop} {post : List Ob → PyData → Prop} {exc : List Ob → Xd → Prop} (h : EA K T tr G (· = os)) (hp : pre os) (hk : ∀ d, post os d → P d) (hx : ∀ x, exc os x → False) : E K T (tCall (spX K T pre post exc) [] E0 tr) G P := fun W σ H s j Q q =>
  ex_call (X := fun _ => False) h hp hk hx W σ H s j (fun _ _ _ _ _ _ _ f => f.elim) Q q
def wordT (x : Str) (d : PyData) : PyData := .tuple [.str x, d]
theorem sh_str {x : Str} {k : Nat} (h : (PyData.str x).canLay0 = true) : Sh k (.str x) := ⟨h, Nat.zero_le _⟩
theorem sh_word {x : Str} {d : PyData} {k : Nat} (hx : (PyData.str x).canLay0 = true) (h : Sh k d) : Sh (k + 1) (wordT x d) := sh_tup fun y hy => by
  rcases List.mem_cons.mp hy with rfl | hy
  · exact sh_str hx
  · rw [List.mem_singleton.mp hy]
    exact h
def chaL : List Int := [0, 1, 5, 50, 99, 100, 10, 20]
theorem sc__law_chances : FnScope ["_law_row_here", "_law_things", "_law_thing"] ["_law_row_here", "_law_things"] (defScope s__law_chances) := ⟨rfl, rfl, rfl, by decide +kernel, rfl, by decide +kernel, by decide +kernel⟩
def isCha (n : Nat) (d : PyData) : Prop := ∃ cs : List Int, d = .tuple (cs.map .int) ∧ cs.length = n ∧ ∀ c ∈ cs, 0 ≤ c ∧ c ≤ 100
abbrev sp_lcha (K : PySem.W.Frag) (T : List (Addr × Str)) : Sp := spA K T (fun os => ∃ n : Nat, os = [.row, .dat (.int n)] ∧ n ≤ 1000) (fun os d => ∀ n : Nat, os = [.row, .dat (.int n)] → isCha n d)
theorem ok_lcha {f f1 : Addr} {fd fd1 : FuncData} (Fn : Fun K "_law_chances" "_law_chances" s__law_chances f fd) (X : Txt mg) (F1 : FnOk P w K mg base CX0 1 f1 fd1 ["_law_row_here", "_law_many"] (sp_taken K T)) (k1 : PySem.W.keepIn K (.ref f1) = true) (b1 : Binds K fd1 ["_law_row_here", "_law_many"] []) (m1 : mg "_law_taken" = some (.ref f1)) :
    FnOk P w K mg base CX0 2 f fd ["_law_row_here", "_law_things"] (sp_lcha K T) := by
  refine ok_def Fn sc__law_chances (fun os ⟨_, e, _⟩ => by rw [e]; rfl) fun cdv A outer s H E' hr => ?_
  refine ⟨_, (pss_one (ps_ret (pe_callTy (r := rTupQ K) call_tuple_of (by rfl) X.tuple bt_tuple (pa_cons (pe_lc (te := tOp (rIxL K) (tLst (tCons (tC (.int 0)) (tCons (tC (.int 1)) (tCons (tC (.int 5)) (tCons (tC (.int 50)) (tCons (tC (.int 99)) (tCons (tC (.int 100)) (tCons (tC (.int 10)) (tCons (tC (.int 20)) tNil))))))))) (tCall (sp_taken K T) [] E0 (tCons (tVar 0) (tCons (tC (.int 8)) tNil)))) (own := [("_law_thing", 2)]) rfl sc__law_chances.nd (pi_range1 rfl X.range (pa_cons (pv 1) pa_nil)) (blkOk_by (N := ["_law_row_here", "_law_things", "_law_thing"]) (sc := defScope s__law_chances) (by decide +kernel)) (fun _ _ _ _ _ => (pg_name (i := 2) sc__law_chances.nd rfl (by first | exact Or.inl rfl | exact Or.inr rfl))) (fun _ _ _ _ _ => pts_nil)
    (fun _ _ _ _ _ => (pe_ix (r := rIxL K) ix_list (pe_lst (pa_cons pe_int (pa_cons pe_int (pa_cons pe_int (pa_cons pe_int (pa_cons pe_int (pa_cons pe_int (pa_cons pe_int (pa_cons pe_int pa_nil))))))))) (pe_call F1 hr (by rfl) m1 k1 b1 .nil pass0 (pa_cons (pv 0) (pa_cons pe_int pa_nil))) (fun _ _ => rfl)))) pa_nil)))), ?_⟩
  rintro os ⟨n, rfl, hn⟩
  refine s_retP (e_tupleLP (P := fun ds => ∃ cs : List Int, ds = cs.map .int ∧ cs.length = n ∧ ∀ c ∈ cs, 0 ≤ c ∧ c ≤ 100) ((el_lc (vs := [2]) (fun i acc => ∃ cs : List Int, acc = cs.map .int ∧ cs.length = i ∧ ∀ c ∈ cs, 0 ≤ c ∧ c ≤ 100) (i_rngN (n := n) (a_cons e_var a_nil) (by omega)) ⟨[], rfl, rfl, fun c hc => by cases hc⟩ (fun i d acc hi hd ⟨cs, ea, h1, h2⟩ => ?_) (by rw [rng_length]; omega)).imp fun ds ⟨cs, e, h1, h2⟩ => ⟨cs, e, by rw [h1, rng_length], h2⟩)) fun d ⟨ds, ed, cs, e, h1, h2⟩ n' en => ?_
  · refine ⟨_, tg_name (by decide), (· = true), t_yes, (fun z => (by cases z)), fun _ => ⟨fun d => ∃ c : Int, d = .int c ∧ 0 ≤ c ∧ c ≤ 100, ?_, fun y ⟨c, ey, c0, c1⟩ => ⟨cs ++ [c], by rw [ea, ey, List.map_append]; rfl, by rw [List.length_append, h1]; rfl, fun z hz => ?_⟩⟩⟩
    · refine e_ixLR (n := 8) (R := (· = chaL.map .int)) (EL.e (el_lst (ds := chaL.map .int) (a_cons e_int (a_cons e_int (a_cons e_int (a_cons e_int (a_cons e_int (a_cons e_int (a_cons e_int (a_cons e_int a_nil)))))))) (by show 8 ≤ 100000; decide))) (e_taken (n := 8) (a_row (a_cons e_int a_nil)) (by decide) (by decide)) fun ds hds => ?_
      rw [hds]
      refine ⟨rfl, fun d hd => ?_⟩
      obtain ⟨c, hc, rfl⟩ := List.mem_map.mp hd
      refine ⟨c, rfl, ?_⟩
      simp only [chaL, List.mem_cons, List.not_mem_nil, or_false] at hc
      rcases hc with rfl | rfl | rfl | rfl | rfl | rfl | rfl | rfl <;> decide
    · rcases List.mem_append.mp hz with hz | hz
      · exact h2 z hz
      · rw [List.mem_singleton.mp hz]
        exact ⟨c0, c1⟩
  · have z : n = n' := by
      have := row_int_inj en
      omega
    subst z
    exact ⟨cs, by rw [ed, e], h1, h2⟩
theorem word_is {CE : Addr} {c : Nat → Addr} {i : Nat} {fs : Option (List (Str × PyData))} (Ek : EKk K CE c i) {d : PyData} (h : (∃ r, False ∧ d = .tuple [.str "", r]) ∨ ∃ x, x = ⟨c i, fs⟩ ∧ d = wdX c x) : d = wordD i fs := by
  rcases h with ⟨_, f, _⟩ | ⟨x, rfl, rfl⟩
  · exact f.elim
  · show wordD (kOf c (c i)) _ = _
    rw [Ek.kk]
theorem s_cutR {G : Dv.Ctx} {t u : TS} {F : EndG} (R : Dv.Ctx → Prop) (h : S K T t G { F with nx := R }) (k : ∀ G', R G' → S K T u G' F) : S K T (tSeq t u) G F := s_seq fun W D' σ H s j ok => h W D' σ H s j ⟨fun σ' H' G' e j' s' f => ok.nx σ' H' G' e j' s' (k G' f), ok.rt, ok.rl, ok.bk, ok.ct⟩
theorem rows_int {n : Nat} {ps ts : List PyData} {cs : List Int} {wr : Int} {m : Nat} (h : PreW n ps ts cs wr m) : ∀ q ∈ rowsW n ps ts cs wr m, IntT q.1 := fun q hq => by
  obtain ⟨l, hl, e⟩ := List.mem_map.mp (List.mem_filter.mp hq).1
  have := h.g.n10
  have := h.m3
  obtain ⟨js, rfl, a, _⟩ := lots_ok (by omega) (by omega) hl
  rw [← e]
  exact ⟨_, rfl, intsD_map js, by rw [List.length_map]; exact a⟩
theorem sh_rows {rs : List (PyData × Int)} (h : ∀ q ∈ rs, IntT q.1) : Sh 3 (rowsD rs) := sh_lst fun d hd => by
  obtain ⟨q, hq, rfl⟩ := List.mem_map.mp hd
  obtain ⟨xs, e, hx, _⟩ := h q hq
  refine sh_tup fun x hx' => ?_
  rcases List.mem_cons.mp hx' with rfl | hx'
  · rw [e]
    exact sh_tup hx.sh
  · rw [List.mem_singleton.mp hx']
    exact sh_int
theorem sum_nat {rs : List (PyData × Int)} {B : Int} (h : ∀ p ∈ rs, 0 < p.2 ∧ p.2 ≤ B) (f : PyData × Int → Bool) : ∃ a : Nat, sumW (rs.filter f) = a := Int.eq_ofNat_of_zero_le (sum_le (rs := rs.filter f) fun p hp => h p (List.mem_filter.mp hp).1).1
theorem sum_nat0 {rs : List (PyData × Int)} {B : Int} (h : ∀ p ∈ rs, 0 < p.2 ∧ p.2 ≤ B) : ∃ a : Nat, sumW rs = a := Int.eq_ofNat_of_zero_le (sum_le h).1
theorem okX_non {CE : Addr} {c : Nat → Addr} {i : Nat} (hi : 7 ≤ i ∧ i < 10) (Ek : EKk K CE c i) {x : Xd} (h : x = ⟨c i, none⟩) : okX K CE c x := by
  subst h
  refine ⟨i, by omega, rfl, Ek, fun n hn => ?_⟩
  have e : needF i = [] := by
    match i, hi with
    | 7, _ | 8, _ | 9, _ => rfl
  rw [e] at hn
  cases hn
theorem el_sharesY {G : Dv.Ctx} {CN : Addr} {tr : TA} {n : Nat} {ps ts : List PyData} {cs : List Int} {wr : Int} {m : Nat} (ha : EA K T tr G (· = argW n ps ts cs wr m)) (pre : PreW n ps ts cs wr m) (hne : rowsW n ps ts cs wr m ≠ []) : EL K T (tCall (sx_sharesL K T CN) [] E0 tr) G (· = sharesL (rowsW n ps ts cs wr m)) :=
  el_callXL ha ⟨_, _, _, _, _, _, rfl, pre⟩ (fun ds ⟨n', ps', ts', cs', wr', m', e, _, _, ed⟩ => by
    obtain ⟨rfl, rfl, rfl, rfl, rfl, rfl⟩ := argW_inj e
    exact ed) fun x ⟨_, n', ps', ts', cs', wr', m', e, _, he⟩ => by
    obtain ⟨rfl, rfl, rfl, rfl, rfl, rfl⟩ := argW_inj e
    exact hne he
theorem el_eachY {G : Dv.Ctx} {CN : Addr} {tr : TA} {n : Nat} {ps ts : List PyData} {cs : List Int} {wr : Int} {m : Nat} (ha : EA K T tr G (· = argW n ps ts cs wr m)) (pre : PreW n ps ts cs wr m) (hne : rowsW n ps ts cs wr m ≠ []) : EL K T (tCall (sx_eachL K T CN) [] E0 tr) G (· = eachL n (rowsW n ps ts cs wr m)) :=
  el_callXL ha ⟨_, _, _, _, _, _, rfl, pre⟩ (fun ds ⟨n', ps', ts', cs', wr', m', e, _, _, ed⟩ => by
    obtain ⟨rfl, rfl, rfl, rfl, rfl, rfl⟩ := argW_inj e
    exact ed) fun x ⟨_, n', ps', ts', cs', wr', m', e, _, he⟩ => by
    obtain ⟨rfl, rfl, rfl, rfl, rfl, rfl⟩ := argW_inj e
    exact hne he
theorem sharesL_len {rs : List (PyData × Int)} : (sharesL rs).length = rs.length := by
  unfold sharesL
  rw [List.length_map]
  exact (List.mergeSort_perm _ _).length_eq
theorem eachL_len {n : Nat} {rs : List (PyData × Int)} : (eachL n rs).length = n := by
  unfold eachL
  rw [List.length_map, List.length_range]
theorem e_planN {G : Dv.Ctx} {t q : Nat} (hr : G[1]? = some (some .row)) (h1 : 1 ≤ t) (h2 : t ≤ 10) (h3 : q ≤ 16) : E K T (tCall (sp_plan K T) [] E0 (tCons (tVar 1) (tCons (tC (.int t)) (tCons (tC (.int q)) tNil)))) G (fun d => ∃ n ps, d = .tuple [.int (n : Nat), .tuple ps] ∧ GoodP n ps ∧ n ≤ t ∧ ps.length ≤ q) :=
  e_call (os := [.row, .dat (.int t), .dat (.int q)]) (a_row (a_cons e_int (a_cons e_int a_nil)) hr) ⟨t, q, rfl, h1, h2, h3⟩ fun d h => h t q rfl
theorem sh_frac {a b : Int} : Sh 1 (fracD a b) := sh_tup fun x hx => by
  rcases List.mem_cons.mp hx with rfl | hx
  · exact sh_int
  · rw [List.mem_singleton.mp hx]; exact sh_int
theorem x_sharesA {G : Dv.Ctx} {Ech : XK} {CN : Addr} {tr : TA} {n : Nat} {ps ts : List PyData} {cs : List Int} {wr : Int} {m : Nat} (ha : EA K T tr G (· = argW n ps ts cs wr m)) (pre : PreW n ps ts cs wr m) : EX K T Ech (tCall (sx_sharesL K T CN) [] Ech tr) G (fun d => rowsW n ps ts cs wr m ≠ [] ∧ d = .list (sharesL (rowsW n ps ts cs wr m))) (fun x => rowsW n ps ts cs wr m = [] ∧ x = ⟨CN, none⟩) :=
  ex_callXL ha ⟨_, _, _, _, _, _, rfl, pre⟩ (fun ds ⟨n', ps', ts', cs', wr', m', e, _, hne, ed⟩ => by
    obtain ⟨rfl, rfl, rfl, rfl, rfl, rfl⟩ := argW_inj e
    exact ⟨hne, by rw [ed]⟩) fun x ⟨ex, n', ps', ts', cs', wr', m', e, _, he⟩ => by
    obtain ⟨rfl, rfl, rfl, rfl, rfl, rfl⟩ := argW_inj e
    exact ⟨he, ex⟩
theorem fall_perm (rs : List (PyData × Int)) : (fallL rs).Perm rs := List.mergeSort_perm ..
def sp_law (K : PySem.W.Frag) (T : List (Addr × Str)) : Sp := fun vs H Q _ => ∃ (a : Addr) (ns : List Int), vs = [.ref a] ∧ SqL K H a (ns.map V.int) ∧ LamX.Tabs T H ∧ ∀ H', Q (.bl true) H'
/-! the world behind the row's making -/
theorem tabs_upd {H : Hp} {q : Addr} {o : HO} (t : LamX.Tabs T H) (h : Fre H q) : LamX.Tabs T (upd H q o) := fun p hp => by
  obtain ⟨ps, h1, h2, h3⟩ := t p hp
  have ne1 : p.1 ≠ q := fun z => by
    subst z
    rcases h with h | ⟨xs, h⟩ | ⟨P, w, L, h⟩ | ⟨C, dx, fs, h⟩ <;> rw [h1] at h <;> cases h
  refine ⟨ps, by rw [upd_ne ne1]; exact h1, h2, fun pos cv hc => ?_⟩
  obtain ⟨c, e, hcc⟩ := h3 pos cv hc
  have ne2 : c ≠ q := fun z => by
    subst z
    rcases h with h | ⟨xs, h⟩ | ⟨P, w, L, h⟩ | ⟨C, dx, fs, h⟩ <;> rw [hcc] at h
    · cases h
    · unfold LamX.CodeO at h; cases h
    · exact codeO_set (Option.some.inj h)
    · unfold LamX.CodeO at h; cases h
  exact ⟨c, e, by rw [upd_ne ne2]; exact hcc⟩
def Scr (K : PySem.W.Frag) (a : Addr) (ns : List Int) (b : Bool) (H : Hp) : Prop := (b = true ∧ H a = some (.lst (ns.map V.int))) ∨ (b = false ∧ ((∃ o, H a = some (.frz o (.lst (ns.map V.int)))) ∨
  ∃ (o : Obj) (its : Array Value) (n : Nat), K.lookup a = some o ∧ o.cls = .type "list" ∧ o.dict = none ∧ o.data = .seq its n ∧ its.size ≤ sizeLine ∧ Vals (ns.map V.int) its.toList))
theorem Scr.sq {a : Addr} {ns : List Int} {b : Bool} {H : Hp} (h : Scr K a ns b H) : SqL K H a (ns.map V.int) := by
  rcases h with ⟨_, h⟩ | ⟨_, h | h⟩
  · exact .inl (.inl h)
  · exact .inl (.inr h)
  · exact .inr h
theorem scr_of {a : Addr} {ns : List Int} {H : Hp} (h : SqL K H a (ns.map V.int)) : ∃ b, Scr K a ns b H := by
  rcases h with (h | h) | h
  · exact ⟨true, .inl ⟨rfl, h⟩⟩
  · exact ⟨false, .inr ⟨rfl, .inl h⟩⟩
  · exact ⟨false, .inr ⟨rfl, .inr h⟩⟩
theorem Scr.upd {a q : Addr} {ns : List Int} {b : Bool} {H : Hp} {o : HO} (h : Scr K a ns b H) (hq : Fre H q) (hn : b = true → a ≠ q) : Scr K a ns b (upd H q o) := by
  rcases h with ⟨hb, h⟩ | ⟨hb, ⟨u, h⟩ | h⟩
  · exact .inl ⟨hb, by rw [upd_ne (hn hb)]; exact h⟩
  · have n : a ≠ q := fun z => by
      subst z
      rcases hq with e | ⟨xs, e⟩ | ⟨P, w, L, e⟩ | ⟨C, dx, fs, e⟩ <;> rw [h] at e <;> cases e
    exact .inr ⟨hb, .inl ⟨u, by rw [upd_ne n]; exact h⟩⟩
  · exact .inr ⟨hb, .inr h⟩
theorem Scr.ext {a : Addr} {ns : List Int} {b : Bool} {H H' : Hp} (h : Scr K a ns b H) (e : LamX.ExtN H H') : Scr K a ns b H' := by
  rcases h with ⟨hb, h⟩ | ⟨hb, ⟨u, h⟩ | h⟩
  · exact .inl ⟨hb, e _ _ h fun _ z => by cases z⟩
  · exact .inr ⟨hb, .inl ⟨u, e _ _ h fun _ z => by cases z⟩⟩
  · exact .inr ⟨hb, .inr h⟩
theorem Scr.ne {a p : Addr} {ns : List Int} {b : Bool} {H : Hp} {v : Addr} {r : List V} (h : Scr K a ns b H) (hp : H p = some (.lst (.ref v :: r))) (hb : b = true) : a ≠ p := fun z => by
  subst z
  rcases h with ⟨_, h⟩ | ⟨hb', _⟩
  · rw [hp] at h
    cases ns <;> cases h
  · rw [hb] at hb'; cases hb'
def rowJ (K : PySem.W.Frag) (T : List (Addr × Str)) (p a : Addr) (ns : List Int) (b : Bool) (H : Hp) : Prop := (∃ i c m : Int, H p = some (.lst [.ref a, .int i, .int c, .int m]) ∧ 0 ≤ i ∧ 0 ≤ m ∧ m < 2147483647) ∧ Scr K a ns b H ∧ LamX.Tabs T H
def rowW (K : PySem.W.Frag) (T : List (Addr × Str)) (p a : Addr) (ns : List Int) (b : Bool) : Wd K T where
  r := some p
  X := fun x => x = p ∨ (b = true ∧ x = a)
  J := rowJ K T p a ns b
  ju := fun {H q o} ⟨⟨i, c, m, h, h0⟩, hs, ht⟩ hq hx => ⟨⟨i, c, m, by rw [upd_ne (show p ≠ q from fun z => hx (.inl z.symm))]; exact h, h0⟩, hs.upd hq fun hb z => hx (.inr ⟨hb, z.symm⟩), tabs_upd ht hq⟩
  jx := fun {H x} ⟨⟨i, c, m, h, h0⟩, hs, ht⟩ hx => by
    rcases hx with rfl | ⟨hb, rfl⟩
    · rw [h]; simp
    · rcases hs with ⟨_, h⟩ | ⟨hb', _⟩
      · rw [h]; simp
      · rw [hb] at hb'; cases hb'
  xc := fun {H x q} ⟨⟨i, c, m, h, h0⟩, hs, ht⟩ hx z => by
    have no : ∀ {xs : List V}, H x = some (.lst xs) → False := fun {xs} e => by
      rw [e] at z
      have z := Option.some.inj z
      unfold LamX.CodeO at z
      cases z
    rcases hx with rfl | ⟨hb, rfl⟩
    · exact no h
    · rcases hs with ⟨_, h⟩ | ⟨hb', _⟩
      · exact no h
      · rw [hb] at hb'; cases hb'
  jt := fun {H H1} ⟨⟨i, c, m, h, h0⟩, hs, ht⟩ e t => ⟨⟨i, c, m, (e _ _ h (fun _ z => by cases z)), h0⟩, hs.ext e, t⟩
  jT := fun {H} j => j.2.2
  rx := fun {x} e => .inl (Option.some.inj e).symm
  row := fun {H x} ⟨⟨i, c, m, h, h0, h1, h2⟩, hs, ht⟩ e => by
    obtain rfl := Option.some.inj e
    exact ⟨a, ns, i, c, m, h, hs.sq, h0, h1, h2⟩
  jw := fun {H x sc i c m i' c' m'} ⟨⟨i0, c0, m0, h, h0⟩, hs, ht⟩ e hx h1 h2 h3 => by
    obtain rfl := Option.some.inj e
    have e2 : sc = a := by
      rw [h] at hx
      cases hx
      rfl
    subst e2
    exact ⟨⟨i', c', m', upd_same, h1, h2, h3⟩, hs.upd (.inr (.inl ⟨_, h⟩)) fun hb => hs.ne h hb, tabs_upd ht (.inr (.inl ⟨_, h⟩))⟩
theorem s_enter {A B : TS} {D : Ends} {σ : L2.St} {H : Hp} {G : Dv.Ctx} {F : EndG} {W : Wd K T} (hS : S K T (tSeq A B) G F) (sl : Sl W H σ G) (j : W.J H) (ok : Ok W D F H) : (tSeq A B) D σ H := hS W D _ H sl j ok
abbrev nLaw : List Str := ["_law_script", "_law_row_here", "_law_plan_here", "_law_most", "_law_told", "_law_chances_here", "_law_left", "_law_places", "_law_probe", "_law_other", "_law_thing", "_law_turned", "_law_lot_here", "_law_many", "_law_one", "_law_due", "_law_some", "_law_part_of", "_law_single", "_law_both", "_law_more"]
theorem sc_law : FnScope nLaw ["_law_script"] (defScope s_law) := ⟨rfl, rfl, rfl, by decide +kernel, rfl, by decide +kernel, by decide +kernel⟩
abbrev gL : Dv.Ctx := [none, some .row, none, none, none, none, none, none, none, none, none, none, none, none, none, none, none, none, none, none, none]
def cwOf (c : Nat → Addr) : ClsW := ⟨c 0, c 1, c 2, c 8, c 9⟩
abbrev lamLaw : Str := ((Str.ofString "law" ++ Str.ofString ".<locals>.") ++ Str.ofString "<lambda>")
section
variable {n : Nat} {pl : List Nat} {G : Dv.Ctx}
theorem w10_ne {i : Nat} {o x : Option Ob} (h : i ≠ 10) (hg : G[i]? = some o) : ((wipeG G [10]).set 10 x)[i]? = some o := by
  show ((G.set 10 none).set 10 x)[i]? = some o
  rw [List.getElem?_set_ne (Ne.symm h), List.getElem?_set_ne (Ne.symm h)]
  exact hg
theorem w10_at {x : Option Ob} (h : 10 < G.length) : ((wipeG G [10]).set 10 x)[10]? = some x := by
  show ((G.set 10 none).set 10 x)[10]? = some x
  rw [List.getElem?_set_self (by rw [List.length_set]; exact h)]
theorem e_moved {i : Nat} {tl : TE} {l : PyData} (hp : Pm n pl) (hn : n ≤ 1000) (hl : LotG n l) (h1 : E K T tl G (· = l)) (h2 : G[i]? = some (some (.dat (plD pl)))) : E K T (tCall (sp_lmoved K T) [] E0 (tCons tl (tCons (tVar i) tNil))) G (· = movedD pl l) :=
  E.is (e_callD (F := F_lmoved) (ds := [l, plD pl]) (a_cons h1 (a_cons (e_var h2) a_nil)) ⟨n, pl, l, rfl, hp, hl, hn⟩) (F_lmoved_eq pl l)
theorem pl_flat (pl : List Nat) : (pl.map fun (j : Nat) => PyData.int j).all flatD = true := List.all_eq_true.mpr fun d hd => by
  obtain ⟨j, _, rfl⟩ := List.mem_map.mp hd
  rfl
theorem e_place {i j k : Nat} (hp : Pm n pl) (hk : k < n) (h1 : G[i]? = some (some (.dat (plD pl)))) (h2 : G[j]? = some (some (.dat (.int (k : Nat))))) : E K T (tBM K "list" (rIndex K) (tVar i) (tCons (tVar j) tNil)) G (· = .int (posN pl k : Nat)) := by
  obtain ⟨a, b⟩ := hp.pos hk
  refine e_index (ds := pl.map fun (j : Nat) => PyData.int j) (d := .int (k : Nat)) h1 (e_var h2) rfl (pl_flat pl) (hp.getD a) ?_ fun m z hm hz => ?_
  · rw [b]
    exact decide_eq_true rfl
  · rw [hp.getD (by omega)] at hz
    cases hz
    refine decide_eq_false fun e => ?_
    have := hp.inj (show m < n by omega) a (by rw [b]; omega)
    omega
def turnP (pl : List Nat) (cs : List Int) : PyData → PyData
  | .int i => .int (cs.getD (posN pl i.toNat) 0)
  | d => d
theorem turn_map (n : Nat) (pl : List Nat) (cs : List Int) : (rng n).map (turnP pl cs) = (turnN n pl cs).map .int := by
  unfold turnN
  show ((List.range n).map fun (j : Nat) => PyData.int j).map _ = _
  rw [List.map_map, List.map_map]
  exact List.map_congr_left fun j _ => by
    show PyData.int (cs.getD (posN pl ((j : Int).toNat)) 0) = _
    rw [Int.toNat_natCast]
    rfl
def eachP (pl : List Nat) (rs : List (PyData × Int)) : PyData → PyData
  | .int i => eachN rs (posN pl i.toNat)
  | d => d
theorem each_map (hp : Pm n pl) {a b : List (PyData × Int)} (h : (a.map (mvR pl)).Perm b) (hg : ∀ q ∈ a, LotG n q.1) : (rng n).map (eachP pl a) = eachL n b := by
  rw [each_eq]
  show ((List.range n).map fun (j : Nat) => PyData.int j).map _ = _
  rw [List.map_map]
  exact List.map_congr_left fun j hj => by
    show eachN a (posN pl ((j : Int).toNat)) = _
    rw [Int.toNat_natCast, hp.each h hg (List.mem_range.mp hj)]
theorem each_get {rs : List (PyData × Int)} {t : Nat} (ht : t < n) : (eachL n rs)[t]? = some (eachN rs t) := by
  rw [each_eq, List.getElem?_map, List.getElem?_range ht]
  rfl
def mvL (pl : List Nat) : PyData → PyData
  | .list xs => natsL (mv pl (natsOf (.tuple xs)))
  | d => d
theorem mvL_nats (pl js : List Nat) : mvL pl (natsL js) = natsL (mv pl js) := by
  show natsL (mv pl (natsOf (lotD js))) = _
  rw [natsOf_lot]
/-- sorted([places[thing] for thing in some]) -/
theorem el_mvL {i : Nat} {js : List Nat} (hp : Pm n pl) (hn : n ≤ 1000) (hj : ∀ j ∈ js, j < n) (hl : js.length ≤ 1000) (h1 : G[i]? = some (some (.dat (natsL js)))) (h2 : G[7]? = some (some (.dat (plD pl)))) (hg : 10 < G.length) (h10 : i ≠ 10) :
    E K T (tCB (rSortedA K) (tCons (tLc (iList K (tVar i)) (gName 10) tYes (tOp (rIxL K) (tVar 7) (tVar 10)) [10]) tNil)) G (· = natsL (mv pl js)) := by
  have e : E K T (tLc (iList K (tVar i)) (gName 10) tYes (tOp (rIxL K) (tVar 7) (tVar 10)) [10]) G (· = .list ((js.map (piN pl)).map fun (j : Nat) => PyData.int j)) := by
    refine E.is (EL.is (el_lcM (vs := [10]) (ds := js.map fun (j : Nat) => PyData.int j) (atP pl) (i_list (e_var h1)) (fun d hd => ?_) (by rw [List.length_map]; omega))) (by rw [at_map])
    obtain ⟨j, hj', rfl⟩ := List.mem_map.mp hd
    refine ⟨_, tg_name (by decide), e_ixL (i := j) (ds := pl.map fun (j : Nat) => PyData.int j) (e_var (w10_ne (by decide) h2)) (e_var (w10_at hg)) (by rw [hp.getD (hj j hj')]; show _ = some (PyData.int (piN pl ((j : Int).toNat) : Nat)); rw [Int.toNat_natCast])⟩
  exact EL.is (el_sortI e)
theorem allN_lt {n : Nat} {ls : List PyData} : ∀ j ∈ allN n ls, j < n := fun j hj => List.mem_range.mp (List.mem_filter.mp hj).1
theorem noneN_lt {n : Nat} {ls : List PyData} : ∀ j ∈ noneN n ls, j < n := fun j hj => List.mem_range.mp (List.mem_filter.mp hj).1
theorem pick_len {n : Nat} (g : Nat → Bool) : ((List.range n).filter g).length ≤ n := by
  have := List.length_filter_le g (List.range n)
  rwa [List.length_range] at this
theorem idle_ints {ps : List PyData} {m : Nat} : ∀ d ∈ idleL n ps m, ∃ k : Nat, d = .int k := fun d hd => by
  obtain ⟨k, _, e⟩ := mem_rng (List.mem_filter.mp hd).1
  exact ⟨k, e⟩
def upV (n : Nat) : PyData → PyData
  | .int i => .int (i + n)
  | d => d
theorem up_map (n : Nat) (js : List Nat) : (js.map fun (j : Nat) => PyData.int j).map (upV n) = (js.map (· + n)).map fun (j : Nat) => PyData.int j := by
  rw [List.map_map, List.map_map]
  rfl
end
abbrev g17 (plan ts cs other turned lot one due : PyData) (m : Nat) (pl : List Nat) (x16 x18 x19 x20 : Option Ob) : Dv.Ctx := [none, some .row, some (.dat plan), some (.dat (.int m)), some (.dat ts), some (.dat cs), some (.dat (.list [])), some (.dat (plD pl)), none, some (.dat other), none, some (.dat turned), some (.dat lot), none, some (.dat one), some (.dat due), x16, none, x18, x19, x20]
set_option maxHeartbeats 40000000 in
theorem ok_law {f cl Pt CE f__law_row f__law_taken f__law_lot f__law_plan f__law_said f__law_chances f__law_moved f_shares f_each f_answers f_kinds f_idle f_could f_sure f_beside f__law_word : Addr} {c : Nat → Addr} {fd fd__law_row fd__law_taken fd__law_lot fd__law_plan fd__law_said fd__law_chances fd__law_moved fd_shares fd_each fd_answers fd_kinds fd_idle fd_could fd_sure fd_beside : FuncData} {g_could g_sure : List Value → List Value → List Value} {gV_could gV_sure : List V → List V → List V} {ds_could ds_sure : List Value} {dVw kVw docw pmw cdw ctw ocw : Value} {anw odw : Option Addr} {oslw : Array (Option Value)} (Fn : FunC K "law" "law" s_law f fd cl) (X : Txt mg) (TB : LamX.TabB base mg cl Pt) (hmT : (Pt, lamLaw) ∈ T) (hTu : ∀ p ∈ T, p.1 = Pt → p.2 = lamLaw) (Te : ETab mg CE c) (Ek9 : EKk K CE c 9)
    (F__law_row : FnOk P w K mg base CX0 1 f__law_row fd__law_row ["_law_script"] (sp_row K)) (k__law_row : PySem.W.keepIn K (.ref f__law_row) = true) (m__law_row : mg "_law_row" = some (.ref f__law_row)) (b__law_row : Binds K fd__law_row ["_law_script"] [])
    (F__law_taken : FnOk P w K mg base CX0 1 f__law_taken fd__law_taken ["_law_row_here", "_law_many"] (sp_taken K T)) (k__law_taken : PySem.W.keepIn K (.ref f__law_taken) = true) (m__law_taken : mg "_law_taken" = some (.ref f__law_taken)) (b__law_taken : Binds K fd__law_taken ["_law_row_here", "_law_many"] [])
    (F__law_lot : FnOk P w K mg base CX0 2 f__law_lot fd__law_lot ["_law_row_here", "_law_things"] (sp_lot K T)) (k__law_lot : PySem.W.keepIn K (.ref f__law_lot) = true) (m__law_lot : mg "_law_lot" = some (.ref f__law_lot)) (b__law_lot : Binds K fd__law_lot ["_law_row_here", "_law_things"] [])
    (F__law_plan : FnOk P w K mg base CX0 3 f__law_plan fd__law_plan ["_law_row_here", "_law_things", "_law_probes"] (sp_plan K T)) (k__law_plan : PySem.W.keepIn K (.ref f__law_plan) = true) (m__law_plan : mg "_law_plan" = some (.ref f__law_plan)) (b__law_plan : Binds K fd__law_plan ["_law_row_here", "_law_things", "_law_probes"] [])
    (F__law_said : FnOk P w K mg base CX0 3 f__law_said fd__law_said ["_law_row_here", "_law_plan_here"] (sp_said K T)) (k__law_said : PySem.W.keepIn K (.ref f__law_said) = true) (m__law_said : mg "_law_said" = some (.ref f__law_said)) (b__law_said : Binds K fd__law_said ["_law_row_here", "_law_plan_here"] [])
    (F__law_chances : FnOk P w K mg base CX0 2 f__law_chances fd__law_chances ["_law_row_here", "_law_things"] (sp_lcha K T)) (k__law_chances : PySem.W.keepIn K (.ref f__law_chances) = true) (m__law_chances : mg "_law_chances" = some (.ref f__law_chances)) (b__law_chances : Binds K fd__law_chances ["_law_row_here", "_law_things"] [])
    (F__law_moved : FnOk P w K mg base CX0 1 f__law_moved fd__law_moved ["_law_lot_here", "_law_places"] (sp_lmoved K T)) (k__law_moved : PySem.W.keepIn K (.ref f__law_moved) = true) (m__law_moved : mg "_law_moved" = some (.ref f__law_moved)) (b__law_moved : Binds K fd__law_moved ["_law_lot_here", "_law_places"] [])
    (F_shares : FnOk P w K mg base (L2.CX P w) 6 f_shares fd_shares ["plan", "told", "chances", "wrong", "most"] (sx_sharesL K T (c 9))) (k_shares : PySem.W.keepIn K (.ref f_shares) = true) (m_shares : mg "shares" = some (.ref f_shares)) (b_shares : Binds K fd_shares ["plan", "told", "chances", "wrong", "most"] [])
    (F_each : FnOk P w K mg base (L2.CX P w) 6 f_each fd_each ["plan", "told", "chances", "wrong", "most"] (sx_eachL K T (c 9))) (k_each : PySem.W.keepIn K (.ref f_each) = true) (m_each : mg "each" = some (.ref f_each)) (b_each : Binds K fd_each ["plan", "told", "chances", "wrong", "most"] [])
    (F_answers : FnOk P w K mg base CX0 5 f_answers fd_answers ["plan", "lot"] (sp_answers K T)) (k_answers : PySem.W.keepIn K (.ref f_answers) = true) (m_answers : mg "answers" = some (.ref f_answers)) (b_answers : Binds K fd_answers ["plan", "lot"] [])
    (F_kinds : FnOk P w K mg base CX0 5 f_kinds fd_kinds ["plan", "most"] (sp_kinds K T)) (k_kinds : PySem.W.keepIn K (.ref f_kinds) = true) (m_kinds : mg "kinds" = some (.ref f_kinds)) (b_kinds : Binds K fd_kinds ["plan", "most"] [])
    (F_idle : FnOk P w K mg base CX0 5 f_idle fd_idle ["plan", "most"] (sp_idle K T)) (k_idle : PySem.W.keepIn K (.ref f_idle) = true) (m_idle : mg "idle" = some (.ref f_idle)) (b_idle : Binds K fd_idle ["plan", "most"] [])
    (F_could : FnOk P w K mg base CX0 5 f_could fd_could ["plan", "told", "most", "slips"] (sp_could K T)) (k_could : PySem.W.keepIn K (.ref f_could) = true) (m_could : mg "could" = some (.ref f_could)) (bk_could : KBn K fd_could ["plan", "told", "most", "slips"] 3 ["slips"] g_could gV_could) (hg_could : ∀ vs zs, gV_could vs zs = vs ++ zs) (b_could : Binds K fd_could ["plan", "told", "most", "slips"] ds_could) (hd_could : Vals [V.int 0] ds_could)
    (F_sure : FnOk P w K mg base CX0 6 f_sure fd_sure ["plan", "told", "most", "slips"] (sp_sure K T)) (k_sure : PySem.W.keepIn K (.ref f_sure) = true) (m_sure : mg "sure" = some (.ref f_sure)) (bk_sure : KBn K fd_sure ["plan", "told", "most", "slips"] 3 ["slips"] g_sure gV_sure) (hg_sure : ∀ vs zs, gV_sure vs zs = vs ++ zs) (b_sure : Binds K fd_sure ["plan", "told", "most", "slips"] ds_sure) (hd_sure : Vals [V.int 0] ds_sure)
    (F_beside : FnOk P w K mg base CX0 5 f_beside fd_beside ["one", "other"] (sp_beside K T)) (k_beside : PySem.W.keepIn K (.ref f_beside) = true) (m_beside : mg "beside" = some (.ref f_beside)) (b_beside : Binds K fd_beside ["one", "other"] [])
    (l__law_word : K.lookup f__law_word = some ⟨ocw, odw, .func (PySem.W.fnOf "_law_word" "_law_word" (defArgs s__law_word) (defBody s__law_word) (defScope s__law_word) dVw kVw docw pmw anw cdw ctw), oslw⟩) (c__law_word : PySem.W.codeIn K cdw "_law_word" = true) (k__law_word : PySem.W.keepIn K (.ref f__law_word) = true) (m__law_word : mg "_law_word" = some (.ref f__law_word))
    (b__law_word : Binds K (PySem.W.fnOf "_law_word" "_law_word" (defArgs s__law_word) (defBody s__law_word) (defScope s__law_word) dVw kVw docw pmw anw cdw ctw) ["_law_work"] []) :
    FnOk P w K mg base CX0 10 f fd ["_law_script"] (sp_law K T) := by
  refine Fn.ok sc_law (fun vs H Q E ⟨a, ns, e, _⟩ => by rw [e]; rfl) fun A outer s H vs Q E' hr ⟨a, ns, e, hsc, hT, q⟩ => ?_
  subst e
  have hr__law_row : Room 1 (A.deeper (envOfC "law" (defScope s_law) s.heap.objs.size f (.ref cl))) := hr.mono (by decide)
  have hr__law_taken : Room 1 (A.deeper (envOfC "law" (defScope s_law) s.heap.objs.size f (.ref cl))) := hr.mono (by decide)
  have hr__law_lot : Room 2 (A.deeper (envOfC "law" (defScope s_law) s.heap.objs.size f (.ref cl))) := hr.mono (by decide)
  have hr__law_plan : Room 3 (A.deeper (envOfC "law" (defScope s_law) s.heap.objs.size f (.ref cl))) := hr.mono (by decide)
  have hr__law_said : Room 3 (A.deeper (envOfC "law" (defScope s_law) s.heap.objs.size f (.ref cl))) := hr.mono (by decide)
  have hr__law_chances : Room 2 (A.deeper (envOfC "law" (defScope s_law) s.heap.objs.size f (.ref cl))) := hr.mono (by decide)
  have hr__law_moved : Room 1 (A.deeper (envOfC "law" (defScope s_law) s.heap.objs.size f (.ref cl))) := hr.mono (by decide)
  have hr_shares : Room 6 (A.deeper (envOfC "law" (defScope s_law) s.heap.objs.size f (.ref cl))) := hr.mono (by decide)
  have hr_each : Room 6 (A.deeper (envOfC "law" (defScope s_law) s.heap.objs.size f (.ref cl))) := hr.mono (by decide)
  have hr_answers : Room 5 (A.deeper (envOfC "law" (defScope s_law) s.heap.objs.size f (.ref cl))) := hr.mono (by decide)
  have hr_kinds : Room 5 (A.deeper (envOfC "law" (defScope s_law) s.heap.objs.size f (.ref cl))) := hr.mono (by decide)
  have hr_idle : Room 5 (A.deeper (envOfC "law" (defScope s_law) s.heap.objs.size f (.ref cl))) := hr.mono (by decide)
  have hr_could : Room 5 (A.deeper (envOfC "law" (defScope s_law) s.heap.objs.size f (.ref cl))) := hr.mono (by decide)
  have hr_sure : Room 6 (A.deeper (envOfC "law" (defScope s_law) s.heap.objs.size f (.ref cl))) := hr.mono (by decide)
  have hr_beside : Room 5 (A.deeper (envOfC "law" (defScope s_law) s.heap.objs.size f (.ref cl))) := hr.mono (by decide)
  have hr_w6 : Room (6 + 2) (A.deeper (envOfC "law" (defScope s_law) s.heap.objs.size f (.ref cl))) := hr.mono (by decide)
  refine ⟨_, (pss_cons (ps_set (i := 1) sc_law.nd rfl (by first | exact Or.inl rfl | exact Or.inr rfl) (pe_call F__law_row hr__law_row (by rfl) m__law_row k__law_row b__law_row .nil pass0 (pa_cons (pv 0) pa_nil)))
  (pss_cons (ps_asg (pe_tup (pa_cons (pe_call F__law_plan hr__law_plan (by rfl) m__law_plan k__law_plan b__law_plan .nil pass0 (pa_cons (pv 1) (pa_cons pe_int (pa_cons pe_int pa_nil)))) (pa_cons (pe_call F__law_taken hr__law_taken (by rfl) m__law_taken k__law_taken b__law_taken .nil pass0 (pa_cons (pv 1) (pa_cons pe_int pa_nil))) pa_nil))) (pg_tup rfl (pgs_cons (pg_name (i := 2) sc_law.nd rfl (by first | exact Or.inl rfl | exact Or.inr rfl)) (pgs_cons (pg_name (i := 3) sc_law.nd rfl (by first | exact Or.inl rfl | exact Or.inr rfl)) pgs_nil))))
  (pss_cons (ps_asg (pe_tup (pa_cons (pe_call F__law_said hr__law_said (by rfl) m__law_said k__law_said b__law_said .nil pass0 (pa_cons (pv 1) (pa_cons (pv 2) pa_nil))) (pa_cons (pe_call F__law_chances hr__law_chances (by rfl) m__law_chances k__law_chances b__law_chances .nil pass0 (pa_cons (pv 1) (pa_cons (pe_ix (r := rIxT K) ix_tup (pv 2) pe_int (fun _ _ => rfl)) pa_nil))) pa_nil))) (pg_tup rfl (pgs_cons (pg_name (i := 4) sc_law.nd rfl (by first | exact Or.inl rfl | exact Or.inr rfl)) (pgs_cons (pg_name (i := 5) sc_law.nd rfl (by first | exact Or.inl rfl | exact Or.inr rfl)) pgs_nil))))
  (pss_cons (ps_asg (pe_tup (pa_cons (pe_listRg (by rfl) (by rfl) X.list (prg_1 (by rfl) X.range (pe_ix (r := rIxT K) ix_tup (pv 2) pe_int (fun _ _ => rfl)))) (pa_cons (pe_lst pa_nil) pa_nil))) (pg_tup rfl (pgs_cons (pg_name (i := 6) sc_law.nd rfl (by first | exact Or.inl rfl | exact Or.inr rfl)) (pgs_cons (pg_name (i := 7) sc_law.nd rfl (by first | exact Or.inl rfl | exact Or.inr rfl)) pgs_nil))))
  (pss_cons (ps_while PassesOwn.never (pt_cmpR (r := rNeD K) (op_neD hr.units) (pv 6) (pe_lst pa_nil) (nomark _)) (pss_one (ps_expr (pe_bm PySem.F.plainAttrs_list PySem.F.slot_list_append PySem.F.type_list_append mt_append (pv 7) (pa_cons (pe_bm PySem.F.plainAttrs_list PySem.F.slot_list_pop PySem.F.type_list_pop mt_popAt (pv 6) (pa_cons (pe_call F__law_taken hr__law_taken (by rfl) m__law_taken k__law_taken b__law_taken .nil pass0 (pa_cons (pv 1) (pa_cons (pe_callB (r := rLenQ K) call_len_seq (by rfl) X.len bt_len (pa_cons (pv 6) pa_nil)) pa_nil))) pa_nil)) pa_nil)))))
  (pss_cons (ps_set (i := 9) sc_law.nd rfl (by first | exact Or.inl rfl | exact Or.inr rfl) (pe_tup (pa_cons (pe_ix (r := rIxT K) ix_tup (pv 2) pe_int (fun _ _ => rfl)) (pa_cons (pe_callTy (r := rTupQ K) call_tuple_of (by rfl) X.tuple bt_tuple (pa_cons (pe_lc (own := [("_law_probe", 8)]) rfl sc_law.nd (pi_tup (pe_ix (r := rIxT K) ix_tup (pv 2) pe_int (fun _ _ => rfl))) (blkOk_by (N := nLaw) (sc := defScope s_law) (by decide +kernel)) (fun _ _ _ _ _ => (pg_name (i := 8) sc_law.nd rfl (by first | exact Or.inl rfl | exact Or.inr rfl))) (fun _ _ _ _ _ => pts_nil) (fun _ _ _ _ _ => (pe_call F__law_moved hr__law_moved (by rfl) m__law_moved k__law_moved b__law_moved .nil pass0 (pa_cons (pv 8) (pa_cons (pv 7) pa_nil))))) pa_nil)) pa_nil))))
  (pss_cons (ps_set (i := 11) sc_law.nd rfl (by first | exact Or.inl rfl | exact Or.inr rfl) (pe_callTy (r := rTupQ K) call_tuple_of (by rfl) X.tuple bt_tuple (pa_cons (pe_lc (own := [("_law_thing", 10)]) rfl sc_law.nd (pi_range1 rfl X.range (pa_cons (pe_ix (r := rIxT K) ix_tup (pv 2) pe_int (fun _ _ => rfl)) pa_nil)) (blkOk_by (N := nLaw) (sc := defScope s_law) (by decide +kernel)) (fun _ _ _ _ _ => (pg_name (i := 10) sc_law.nd rfl (by first | exact Or.inl rfl | exact Or.inr rfl))) (fun _ _ _ _ _ => pts_nil) (fun _ _ _ _ _ => (pe_ix (r := rIxT K) ix_tup (pv 5) (show PE _ _ (tBM K "list" (rIndex K) (tVar 7) (tCons (tVar 10) tNil)) from (by exact pe_bm PySem.F.plainAttrs_list PySem.F.slot_list_index PySem.F.type_list_index mt_index (pv 7) (pa_cons (pv 10) pa_nil))) (fun _ _ => rfl)))) pa_nil)))
  (pss_cons (ps_set (i := 12) sc_law.nd rfl (by first | exact Or.inl rfl | exact Or.inr rfl) (pe_call F__law_lot hr__law_lot (by rfl) m__law_lot k__law_lot b__law_lot .nil pass0 (pa_cons (pv 1) (pa_cons (pe_ix (r := rIxT K) ix_tup (pv 2) pe_int (fun _ _ => rfl)) pa_nil))))
  (pss_cons (ps_if (pt_cmpR (r := rNeD K) (op_neD hr.units) (pe_call F_answers hr_answers (by rfl) m_answers k_answers b_answers .nil pass0 (pa_cons (pv 9) (pa_cons (pe_call F__law_moved hr__law_moved (by rfl) m__law_moved k__law_moved b__law_moved .nil pass0 (pa_cons (pv 12) (pa_cons (pv 7) pa_nil))) pa_nil))) (pe_call F_answers hr_answers (by rfl) m_answers k_answers b_answers .nil pass0 (pa_cons (pv 2) (pa_cons (pv 12) pa_nil))) (nomark _)) (pss_one (ps_ret pe_bl)) pss_nil)
  (pss_cons (ps_if (pt_cmpR (r := rNeD K) (op_neD hr.units) (pe_lst (pa_cons (pe_call F_kinds hr_kinds (by rfl) m_kinds k_kinds b_kinds .nil pass0 (pa_cons (pv 9) (pa_cons (pv 3) pa_nil))) (pa_cons (pe_call F_idle hr_idle (by rfl) m_idle k_idle b_idle .nil pass0 (pa_cons (pv 9) (pa_cons (pv 3) pa_nil))) pa_nil))) (pe_lst (pa_cons (pe_call F_kinds hr_kinds (by rfl) m_kinds k_kinds b_kinds .nil pass0 (pa_cons (pv 2) (pa_cons (pv 3) pa_nil))) (pa_cons (pe_call F_idle hr_idle (by rfl) m_idle k_idle b_idle .nil pass0 (pa_cons (pv 2) (pa_cons (pv 3) pa_nil))) pa_nil))) (nomark _)) (pss_one (ps_ret pe_bl)) pss_nil)
  (pss_cons (ps_set (i := 14) sc_law.nd rfl (by first | exact Or.inl rfl | exact Or.inr rfl) (pe_callB (r := rSortedA K) (cr_sortedA hr.units) (by rfl) X.sorted bt_sorted (pa_cons (pe_lc (g := (gTup K 2 (gCons (gName 12) (gCons (gName 13) gNil)))) (own := [("_law_lot_here", 12), ("_law_many", 13)]) rfl sc_law.nd (pi_list (pe_callN F_could hr_could (by rfl) m_could k_could bk_could pass0 (pa_cons (pv 2) (pa_cons (pv 4) (pa_cons (pv 3) pa_nil))) (pk_cons pe_int pk_nil))) (blkOk_by (N := nLaw) (sc := defScope s_law) (by decide +kernel)) (fun _ _ _ _ _ => (pg_tup rfl (pgs_cons (pg_name (i := 12) sc_law.nd rfl (by first | exact Or.inl rfl | exact Or.inr rfl)) (pgs_cons (pg_name (i := 13) sc_law.nd rfl (by first | exact Or.inl rfl | exact Or.inr rfl)) pgs_nil)))) (fun _ _ _ _ _ => pts_nil) (fun _ _ _ _ _ => (pe_tup (pa_cons (pe_call F__law_moved hr__law_moved (by rfl) m__law_moved k__law_moved b__law_moved .nil pass0 (pa_cons (pv 12) (pa_cons (pv 7) pa_nil))) (pa_cons (pv 13) pa_nil))))) pa_nil)))
  (pss_cons (ps_if (pt_cmpR (r := rNeD K) (op_neD hr.units) (pv 14) (pe_callB (r := rSortedA K) (cr_sortedA hr.units) (by rfl) X.sorted bt_sorted (pa_cons (pe_callN F_could hr_could (by rfl) m_could k_could bk_could pass0 (pa_cons (pv 9) (pa_cons (pv 4) (pa_cons (pv 3) pa_nil))) (pk_cons pe_int pk_nil)) pa_nil)) (nomark _)) (pss_one (ps_ret pe_bl)) pss_nil)
  (pss_cons (ps_set (i := 15) sc_law.nd rfl (by first | exact Or.inl rfl | exact Or.inr rfl) (pe_call F_sure hr_sure (by rfl) m_sure k_sure b_sure hd_sure pass0 (pa_cons (pv 2) (pa_cons (pv 4) (pa_cons (pv 3) pa_nil)))))
  (pss_cons (ps_if (pt_cmp (pc_notN (pv 15)) rfl) (pss_one (ps_set (i := 15) sc_law.nd rfl (by first | exact Or.inl rfl | exact Or.inr rfl) (pe_callTy (r := rTupQ K) call_tuple_of (by rfl) X.tuple bt_tuple (pa_cons (pe_lc (te := tCB (rSortedA K) (tCons (tLc (iList K (tVar 16)) (gName 10) tYes (tOp (rIxL K) (tVar 7) (tVar 10)) [10]) tNil)) (own := [("_law_some", 16)]) rfl sc_law.nd (pi_tup (pv 15)) (blkOk_by (N := nLaw) (sc := defScope s_law) (by decide +kernel)) (fun _ _ _ _ _ => (pg_name (i := 16) sc_law.nd rfl (by first | exact Or.inl rfl | exact Or.inr rfl))) (fun _ _ _ _ _ => pts_nil) (fun _ _ _ _ _ => (pe_callB (r := rSortedA K) (cr_sortedA hr.units) (by rfl) X.sorted bt_sorted (pa_cons (pe_lc (wi := iList K (tVar 16)) (own := [("_law_thing", 10)]) rfl sc_law.nd (pi_list (pv 16)) (by exact blkOk_by (by rfl)) (fun _ _ _ _ _ => (pg_name (i := 10) sc_law.nd rfl (by first | exact Or.inl rfl | exact Or.inr rfl))) (fun _ _ _ _ _ => pts_nil) (fun _ _ _ _ _ => (pe_ix (r := rIxL K) ix_list (pv 7) (pv 10) (fun _ _ => rfl)))) pa_nil)))) pa_nil)))) pss_nil)
  (pss_cons (ps_if (pt_cmpR (r := rNeD K) (op_neD hr.units) (pe_call F_sure hr_sure (by rfl) m_sure k_sure b_sure hd_sure pass0 (pa_cons (pv 9) (pa_cons (pv 4) (pa_cons (pv 3) pa_nil)))) (pv 15) (nomark _)) (pss_one (ps_ret pe_bl)) pss_nil)
  (pss_cons (ps_if (pt_cmpR op_eq (pe_ix (r := rIxT K) ix_tup (LamX.pe_lamcall (k := 6) (T := T) (by rfl) m__law_word k__law_word l__law_word c__law_word b__law_word sc__law_word rfl (.inl rfl) (word_gives (T := T) X Te) TB (by rfl) hmT hTu hr_w6 (LamX.lamS_by (show LamX.lamSB (defScope s_law) _ = true by decide +kernel)) (by rfl) (by intros; rfl) (fun A outer s H E f c' hr => pe_call F_shares (hr.mono (by decide)) (by rfl) m_shares k_shares b_shares .nil (passes_call (takes_of (E := E) rfl rfl rfl rfl) fun _ _ _ _ h => h) (pa_cons (pv 2) (pa_cons (pv 4) (pa_cons (pv 5) (pa_cons pe_int (pa_cons (pv 3) pa_nil))))))) pe_int (fun _ _ => rfl)) pe_str (nomark _)) (pss_cons (ps_set (i := 16) sc_law.nd rfl (by first | exact Or.inl rfl | exact Or.inr rfl) (pe_callB (r := rSortedA K) (cr_sortedA hr.units) (by rfl) X.sorted bt_sorted (pa_cons (pe_lc (g := (gTup K 2 (gCons (gName 12) (gCons (gName 17) gNil)))) (own := [("_law_lot_here", 12), ("_law_part_of", 17)]) rfl sc_law.nd (pi_list (pe_call F_shares hr_shares (by rfl) m_shares k_shares b_shares .nil passL (pa_cons (pv 2) (pa_cons (pv 4) (pa_cons (pv 5) (pa_cons pe_int (pa_cons (pv 3) pa_nil))))))) (blkOk_by (N := nLaw) (sc := defScope s_law) (by decide +kernel)) (fun _ _ _ _ _ => (pg_tup rfl (pgs_cons (pg_name (i := 12) sc_law.nd rfl (by first | exact Or.inl rfl | exact Or.inr rfl)) (pgs_cons (pg_name (i := 17) sc_law.nd rfl (by first | exact Or.inl rfl | exact Or.inr rfl)) pgs_nil)))) (fun _ _ _ _ _ => pts_nil) (fun _ _ _ _ _ => (pe_tup (pa_cons (pe_call F__law_moved hr__law_moved (by rfl) m__law_moved k__law_moved b__law_moved .nil pass0 (pa_cons (pv 12) (pa_cons (pv 7) pa_nil))) (pa_cons (pv 17) pa_nil))))) pa_nil)))
  (pss_cons (ps_if (pt_cmpR (r := rNeD K) (op_neD hr.units) (pv 16) (pe_callB (r := rSortedA K) (cr_sortedA hr.units) (by rfl) X.sorted bt_sorted (pa_cons (pe_call F_shares hr_shares (by rfl) m_shares k_shares b_shares .nil passL (pa_cons (pv 9) (pa_cons (pv 4) (pa_cons (pv 11) (pa_cons pe_int (pa_cons (pv 3) pa_nil)))))) pa_nil)) (nomark _)) (pss_one (ps_ret pe_bl)) pss_nil)
  (pss_cons (ps_set (i := 18) sc_law.nd rfl (by first | exact Or.inl rfl | exact Or.inr rfl) (pe_call F_each hr_each (by rfl) m_each k_each b_each .nil passL (pa_cons (pv 2) (pa_cons (pv 4) (pa_cons (pv 5) (pa_cons pe_int (pa_cons (pv 3) pa_nil)))))))
  (pss_one (ps_if (pt_cmpR (r := rNeD K) (op_neD hr.units) (pe_call F_each hr_each (by rfl) m_each k_each b_each .nil passL (pa_cons (pv 9) (pa_cons (pv 4) (pa_cons (pv 11) (pa_cons pe_int (pa_cons (pv 3) pa_nil)))))) (pe_lc (own := [("_law_thing", 10)]) rfl sc_law.nd (pi_range1 rfl X.range (pa_cons (pe_ix (r := rIxT K) ix_tup (pv 2) pe_int (fun _ _ => rfl)) pa_nil)) (blkOk_by (N := nLaw) (sc := defScope s_law) (by decide +kernel)) (fun _ _ _ _ _ => (pg_name (i := 10) sc_law.nd rfl (by first | exact Or.inl rfl | exact Or.inr rfl))) (fun _ _ _ _ _ => pts_nil) (fun _ _ _ _ _ => (pe_ix (r := rIxL K) ix_list (pv 18) (show PE _ _ (tBM K "list" (rIndex K) (tVar 7) (tCons (tVar 10) tNil)) from (by exact pe_bm PySem.F.plainAttrs_list PySem.F.slot_list_index PySem.F.type_list_index mt_index (pv 7) (pa_cons (pv 10) pa_nil))) (fun _ _ => rfl)))) (nomark _)) (pss_one (ps_ret pe_bl)) pss_nil))))) pss_nil)
  (pss_cons (ps_set (i := 19) sc_law.nd rfl (by first | exact Or.inl rfl | exact Or.inr rfl) (pe_ifExp (pt_cmpR op_lt (pe_ix (r := rIxT K) ix_tup (pv 2) pe_int (fun _ _ => rfl)) pe_int (nomark _)) (pe_call F_beside hr_beside (by rfl) m_beside k_beside b_beside .nil pass0 (pa_cons (pv 2) (pa_cons (pv 9) pa_nil))) (pv 2)))
  (pss_cons (ps_set (i := 20) sc_law.nd rfl (by first | exact Or.inl rfl | exact Or.inr rfl) (pe_op (r := rCatA K) op_catA (pv 12) (pe_callTy (r := rTupQ K) call_tuple_of (by rfl) X.tuple bt_tuple (pa_cons (pe_lc (own := [("_law_thing", 10)]) rfl sc_law.nd (pi_tup (pe_call F__law_moved hr__law_moved (by rfl) m__law_moved k__law_moved b__law_moved .nil pass0 (pa_cons (pv 12) (pa_cons (pv 7) pa_nil)))) (blkOk_by (N := nLaw) (sc := defScope s_law) (by decide +kernel)) (fun _ _ _ _ _ => (pg_name (i := 10) sc_law.nd rfl (by first | exact Or.inl rfl | exact Or.inr rfl))) (fun _ _ _ _ _ => pts_nil) (fun _ _ _ _ _ => (pe_op (r := rI0 fun i j => .int (i + j)) op_add (pv 10) (pe_ix (r := rIxT K) ix_tup (pv 2) pe_int (fun _ _ => rfl))))) pa_nil))))
  (pss_one (ps_ret (pe_or (pe_cmpR (r := rEqD K) (op_eqD hr.units) (pv 19) (pv 2) (nomark _)) (pe_one (pe_cmpR (r := rEqD K) (op_eqD hr.units) (pe_call F_answers hr_answers (by rfl) m_answers k_answers b_answers .nil pass0 (pa_cons (pv 19) (pa_cons (pv 20) pa_nil))) (pe_op (r := rRepB K) op_repB (pe_call F_answers hr_answers (by rfl) m_answers k_answers b_answers .nil pass0 (pa_cons (pv 2) (pa_cons (pv 12) pa_nil))) pe_int) (nomark _)))))))))))))))))))))))), ?_⟩
  refine ⟨.ref a, rfl, a, ns, rfl, hsc, fun p m hp h0 h1 => ?_⟩
  obtain ⟨b, hb⟩ := scr_of hsc
  have jj : (rowW K T p a ns b).J (upd H p (.lst [.ref a, .int 0, .int 0, .int m])) := ⟨⟨0, 0, m, upd_same, Int.le_refl _, h0, h1⟩, hb.upd (.inl hp) (fun hb' z => by
    subst z
    rcases hb with ⟨_, h⟩ | ⟨h, _⟩
    · rw [hp] at h; cases h
    · rw [hb'] at h; cases h), tabs_upd hT (.inl hp)⟩
  have sl : Sl (rowW K T p a ns b) (upd H p (.lst [.ref a, .int 0, .int 0, .int m])) ((L2.start nLaw [V.ref a]).set 1 (some (.ref p))) gL := (sl_none (n := 21) rfl).set (i := 1) (.row rfl)
  unfold gName
  dsimp only
  refine s_enter (G := gL) (F := { rt := (· = .bool true) }) (W := rowW K T p a ns b) ?_ sl jj ⟨fun _ _ _ _ _ _ f => f.elim, fun v d H' _ _ dv e => ?_, fun _ _ _ _ _ _ _ _ _ f => f.elim, fun _ _ _ _ _ _ f => f.elim, fun _ _ _ _ _ _ f => f.elim⟩
  rotate_left
  · have e : d = .bool true := e
    subst e
    rw [dv.bool_inv]
    exact q H'
  clear sl jj hb hp h0 h1 hT hsc q
  refine s_seq (s_asgTgP (vs := [2, 3]) (e_tup2P (e_planN (t := 6) (q := 6) rfl (by decide) (by decide) (by decide)) (e_take rfl (by decide) (by decide))) ?_)
  rintro _ ⟨_, _, rfl, ⟨n, ps, rfl, hg, hn6, hl⟩, ⟨m, hm, rfl⟩⟩
  have h16 := hg.len
  have h10 := hg.n10
  have hn1 := hg.n1
  have hn7 : n < 7 := by omega
  have hm4 : m < 4 := by omega
  have hlots := GoodP.lots hg
  refine ⟨_, tg_pair (vs := [2, 3]) (by decide) (by decide), ?_⟩
  refine s_seq (s_asgTgP (vs := [4, 5]) (e_tup2P (P := fun d => ∃ ts, d = .tuple ts ∧ ts.length = ps.length ∧ ∀ x ∈ ts, isAnsD x = true) (Q := isCha n) (e_call (os := [.row, .dat (.tuple [.int n, .tuple ps])]) (a_row (a_cons e_var a_nil) rfl) ⟨n, ps, rfl, hg⟩ fun d h => h n ps rfl) (e_call (os := [.row, .dat (.int n)]) (a_row (a_cons (e_ixT (i := 0) e_var e_int rfl) a_nil) rfl) ⟨n, rfl, by omega⟩ fun d h => h n rfl)) ?_)
  rintro _ ⟨_, _, rfl, ⟨ts, rfl, tl, ta⟩, ⟨cs, rfl, cl', ca⟩⟩
  refine ⟨_, tg_pair (vs := [4, 5]) (by decide) (by decide), ?_⟩
  refine s_places (n := n) rfl (by decide) (by decide) (by decide) (by show 6 < 21; decide) (by show 7 < 21; decide) (by omega) (e_ixT (i := 0) e_var e_int rfl) fun pl hp => ?_
  obtain ⟨qs, hqs⟩ : ∃ qs, qs = ps.map (movedD pl) := ⟨_, rfl⟩
  have hgq : GoodP n qs := by rw [hqs]; exact hp.goodp hg
  have hql : qs.length = ps.length := by rw [hqs, List.length_map]
  refine s_seq (s_asg (d := .tuple [.int n, .tuple qs]) (e_tup (ds := [.int n, .tuple qs]) (a_cons (e_ixT (i := 0) e_var e_int rfl) (a_cons (E.is (e_tupleL (a_cons (EL.is (el_lcM (vs := [8]) (ds := ps) (movedD pl) (i_tup (e_ixT (i := 1) (ds := [.int n, .tuple ps]) e_var e_int rfl)) (fun d hd => ⟨_, tg_name (by decide), e_moved hp (by omega) (hlots d hd) e_var rfl⟩) (by omega))) a_nil)) (by rw [hqs])) a_nil)) (by show 2 ≤ 100000; decide)) ?_)
  refine s_seq (s_asg (d := .tuple ((turnN n pl cs).map .int)) (e_tupleL (a_cons (E.is (EL.is (el_lcM (vs := [10]) (ds := rng n) (turnP pl cs) (i_rngN (n := n) (a_cons (e_ixT (i := 0) e_var e_int rfl) a_nil) (by omega)) (fun d hd => ?_) (by rw [rng_length]; omega))) (by rw [turn_map])) a_nil)) ?_)
  · obtain ⟨k, hk, rfl⟩ := mem_rng hd
    have hpos := (hp.pos hk).1
    refine ⟨_, tg_name (by decide), e_ixT (i := posN pl k) (ds := cs.map .int) e_var (e_place hp hk rfl rfl) ?_⟩
    show _ = some (PyData.int (cs.getD (posN pl ((k : Int).toNat)) 0))
    rw [Int.toNat_natCast, List.getElem?_map, List.getElem?_eq_getElem (by rw [cl']; exact hpos), List.getD_eq_getElem?_getD, List.getElem?_eq_getElem (by rw [cl']; exact hpos)]
    rfl
  refine s_seq (s_asgP (P := fun d => ∃ js, d = lotD js ∧ GoodJ n js) (e_call (os := [.row, .dat (.int n)]) (a_row (a_cons (e_ixT (i := 0) e_var e_int rfl) a_nil) rfl) ⟨n, rfl, by omega⟩ fun d p => p n rfl) ?_)
  rintro _ ⟨js, rfl, hj⟩
  have hjl := hj.len
  have hlj : LotG n (lotD js) := ⟨js, rfl, hj⟩
  have hmj : isLotD n (movedD pl (lotD js)) = true := by rw [movedD_lot]; exact isLot_good (hp.good hj)
  -- answers
  have shA : ∀ l : List Nat, Sh 1 (.tuple (ps.map fun p => ansD p (lotD l))) := fun l => sh_tup fun x hx => by
    obtain ⟨p, hp', rfl⟩ := List.mem_map.mp hx
    obtain ⟨a, rfl, _⟩ := hlots p hp'
    exact sh_int
  refine s_seq (s_if (b := false) (t_B (e_neSame (d := .tuple (ps.map fun p => ansD p (lotD js))) (E.is (e_callD (F := K17.F_answers) (ds := [.tuple [.int n, .tuple qs], movedD pl (lotD js)]) (a_cons e_var (a_cons (e_moved hp (by omega) hlj e_var rfl) a_nil)) ⟨n, qs, _, rfl, hgq, hmj⟩) (by rw [hqs]; exact congrArg PyData.tuple (hp.ansL hlots hlj))) (e_callD (F := K17.F_answers) (ds := [.tuple [.int n, .tuple ps], lotD js]) (a_cons e_var (a_cons e_var a_nil)) ⟨n, ps, _, rfl, hg, isLot_good hj⟩) (shA js) (by decide))) (fun h => by cases h) fun _ => s_next ?_)
  -- kinds, idle
  have hm3 : m ≤ 3 := by omega
  have sh2 : Sh 2 (.list [.int (kindsN n ps m : Nat), .list (idleL n ps m)]) := sh_lst fun x hx => by
    rcases List.mem_cons.mp hx with rfl | hx
    · exact sh_int
    · rw [List.mem_singleton.mp hx]
      exact sh_lst fun y hy => by
        obtain ⟨k, rfl⟩ := idle_ints y hy
        exact sh_int
  refine s_seq (s_if (b := false) (t_B (e_neSame (d := .list [.int (kindsN n ps m : Nat), .list (idleL n ps m)]) (EL.is (el_lst (ds := [.int (kindsN n ps m : Nat), .list (idleL n ps m)]) (a_cons (E.is (e_callD (F := K17.F_kinds) (ds := [.tuple [.int n, .tuple qs], .int m]) (a_cons e_var (a_cons e_var a_nil)) ⟨n, qs, m, rfl, hgq, hn6, hm3⟩) (by rw [hqs]; show PyData.int (kindsN n (ps.map (movedD pl)) m : Nat) = _; rw [hp.kinds hn7 hm4 hlots])) (a_cons (E.is (EL.is (el_callD (F := K17.F_idle) (ds := [.tuple [.int n, .tuple qs], .int m]) (a_cons e_var (a_cons e_var a_nil)) ⟨n, qs, m, rfl, hgq, hn6, hm3⟩)) (by rw [hqs]; show PyData.list (idleL n (ps.map (movedD pl)) m) = _; rw [hp.idle hn7 hm4 hlots])) a_nil)) (by show 2 ≤ 100000; decide)))
    (EL.is (el_lst (ds := [.int (kindsN n ps m : Nat), .list (idleL n ps m)]) (a_cons (E.is (e_callD (F := K17.F_kinds) (ds := [.tuple [.int n, .tuple ps], .int m]) (a_cons e_var (a_cons e_var a_nil)) ⟨n, ps, m, rfl, hg, hn6, hm3⟩) rfl) (a_cons (E.is (EL.is (el_callD (F := K17.F_idle) (ds := [.tuple [.int n, .tuple ps], .int m]) (a_cons e_var (a_cons e_var a_nil)) ⟨n, ps, m, rfl, hg, hn6, hm3⟩)) rfl) a_nil)) (by show 2 ≤ 100000; decide))) sh2 (by decide))) (fun h => by cases h) fun _ => s_next ?_)
  -- could
  have P1 : Pre n ps ts m 1 := ⟨hg, tl, ta, hm3, by decide⟩
  have Q1 : Pre n qs ts m 1 := ⟨hgq, by rw [hql]; exact tl, ta, hm3, by decide⟩
  have clen : ∀ (ps ts : List PyData) (sl : Nat), (couldL n ps ts m sl).length < 1000 := fun ps ts sl => by
    unfold couldL
    rw [List.length_map]
    exact Nat.lt_of_le_of_lt (List.length_filter_le ..) P1.len
  obtain ⟨cA, cS, cD, cK, cH⟩ := pairI_ok (n := n) (hp.map_I (could_pairs (n := n) (m := m) (sl := 1) (ps := ps) (ts := ts)))
  obtain ⟨dA, dS, dD, dK, dH⟩ := pairI_ok (n := n) (could_pairs (n := n) (m := m) (sl := 1) (ps := qs) (ts := ts))
  refine s_seq (s_asg (d := .list (((couldL n ps ts m 1).map (mvP pl)).mergeSort (PySem.W.dataLe false selfD))) (EL.is (el_sortA (EL.is (el_lcM (vs := [12, 13]) (ds := couldL n ps ts m 1) (mvP pl) (i_list (EL.is (el_callND (F := K17.F_could) (ds := [.tuple [.int n, .tuple ps], .tuple ts, .int m]) (es := [.int (1 : Nat)]) (a_cons e_var (a_cons e_var (a_cons e_var a_nil))) (a_cons e_int a_nil) rfl rfl hg_could ⟨n, ps, ts, m, 1, rfl, P1⟩))) (fun d hd => ?_) (by have := clen ps ts 1; omega))) cA cS cD)) ?_)
  · obtain ⟨a, c, rfl, ga⟩ := could_pairs d hd
    exact ⟨_, tg_pair (by decide) (by decide), e_tup (ds := [movedD pl (lotD a), .int c]) (a_cons (e_moved hp (by omega) ⟨a, rfl, ga⟩ e_var rfl) (a_cons e_var a_nil)) (by show 2 ≤ 100000; decide)⟩
  refine s_seq (s_if (b := false) (t_B (e_neSame (d := .list ((couldL n qs ts m 1).mergeSort (PySem.W.dataLe false selfD))) (E.is e_var (by rw [hqs, hp.could_sort hn7 hm4 hlots])) (EL.is (el_sortA (EL.is (el_callND (F := K17.F_could) (ds := [.tuple [.int n, .tuple qs], .tuple ts, .int m]) (es := [.int (1 : Nat)]) (a_cons e_var (a_cons e_var (a_cons e_var a_nil))) (a_cons e_int a_nil) rfl rfl hg_could ⟨n, qs, ts, m, 1, rfl, Q1⟩)) dA dS dD)) (sh_sorted dH) (by decide))) (fun h => by cases h) fun _ => s_next ?_)
  -- sure
  have P0 : Pre n ps ts m 0 := ⟨hg, tl, ta, hm3, by decide⟩
  have Q0 : Pre n qs ts m 0 := ⟨hgq, by rw [hql]; exact tl, ta, hm3, by decide⟩
  refine s_seq (s_asg (d := sureD n ps ts m 0) (E.is (e_callDd (F := K17.F_sure) (ds := [.tuple [.int n, .tuple ps], .tuple ts, .int m]) (es := [.int (0 : Nat)]) (a_cons e_var (a_cons e_var (a_cons e_var a_nil))) (fun W H => .cons (.dat (.int 0)) .nil) ⟨n, ps, ts, m, 0, rfl, P0⟩) rfl) ?_)
  refine s_cutR (fun G' => G' = g17 (.tuple [.int n, .tuple ps]) (.tuple ts) (.tuple (cs.map .int)) (.tuple [.int n, .tuple qs]) (.tuple ((turnN n pl cs).map .int)) (lotD js) (.list (((couldL n ps ts m 1).map (mvP pl)).mergeSort (PySem.W.dataLe false selfD))) (sureD n qs ts m 0) m pl none none none none) ?_ ?_
  · by_cases h0 : lotsC n ps ts m 0 = []
    · have e1 := sure_non h0
      have e2 := hp.sure_none hn7 hm4 hlots h0
      refine s_if (b := false) (t_B (E.is (e_notN e_var) (by rw [e1]; rfl))) (fun h => by cases h) fun _ => s_next ?_
      rw [hqs, e2, e1]
      rfl
    · have e1 := sure_eq _ rfl h0
      have e2 := hp.sure hn7 hm4 hlots h0
      have la := pick_len (n := n) fun j => decide (haveN (.int (j : Nat)) (lotsC n ps ts m 0) = (lotsC n ps ts m 0).length)
      have lb := pick_len (n := n) fun j => decide (haveN (.int (j : Nat)) (lotsC n ps ts m 0) = 0)
      refine s_if (b := true) (t_B (E.is (e_notN e_var) (by rw [e1]; rfl))) (fun _ => ?_) fun h => by cases h
      refine s_asg (d := .tuple [natsL (mv pl (allN n (lotsC n ps ts m 0))), natsL (mv pl (noneN n (lotsC n ps ts m 0)))]) (E.is (e_tupleL (a_cons (EL.is (el_lcM (vs := [16]) (ds := [natsL (allN n (lotsC n ps ts m 0)), natsL (noneN n (lotsC n ps ts m 0))]) (mvL pl) (i_tup (E.is e_var e1)) (fun d hd => ?_) (by show 2 ≤ 100000; decide))) a_nil)) (by rw [List.map_cons, List.map_cons, mvL_nats, mvL_nats]; rfl)) ?_
      · rcases List.mem_cons.mp hd with rfl | hd
        · exact ⟨_, tg_name (by decide), E.is (el_mvL hp (by omega) allN_lt (by unfold allN; omega) rfl rfl (by show 10 < 21; decide) (by decide)) (mvL_nats pl _).symm⟩
        · rw [List.mem_singleton.mp hd]
          exact ⟨_, tg_name (by decide), E.is (el_mvL hp (by omega) noneN_lt (by unfold noneN; omega) rfl rfl (by show 10 < 21; decide) (by decide)) (mvL_nats pl _).symm⟩
      · rw [hqs, e2]
        rfl
  rintro _ rfl
  have sh3 : Sh 2 (sureD n qs ts m 0) := by
    rw [hqs]
    by_cases h0 : lotsC n ps ts m 0 = []
    · rw [hp.sure_none hn7 hm4 hlots h0]; exact sh_non
    · rw [hp.sure hn7 hm4 hlots h0]; exact sh_sure _ _
  refine s_seq (s_if (b := false) (t_B (e_neSame (d := sureD n qs ts m 0) (E.is (e_callDd (F := K17.F_sure) (ds := [.tuple [.int n, .tuple qs], .tuple ts, .int m]) (es := [.int (0 : Nat)]) (a_cons e_var (a_cons e_var (a_cons e_var a_nil))) (fun W H => .cons (.dat (.int 0)) .nil) ⟨n, qs, ts, m, 0, rfl, Q0⟩) rfl) e_var sh3 (by decide))) (fun h => by cases h) fun _ => s_next ?_)
  -- shares
  have pre : PreW n ps ts cs 5 m := ⟨hg, tl, ta, cl', ca, by decide, hm3⟩
  have preq : PreW n qs ts (turnN n pl cs) 5 m := by rw [hqs]; exact hp.prew pre
  obtain ⟨rs, hrs⟩ : ∃ rs, rs = rowsW n ps ts cs 5 m := ⟨_, rfl⟩
  obtain ⟨rq, hrq⟩ : ∃ rq, rq = rowsW n qs ts (turnN n pl cs) 5 m := ⟨_, rfl⟩
  have hpm : (rs.map (mvR pl)).Perm rq := by rw [hrs, hrq, hqs]; exact hp.rows hn7 hm4 cl' hlots
  have hrg : ∀ q ∈ rs, LotG n q.1 := fun q hq => rows_good (by rw [← hrs]; exact hq)
  have hrgq : ∀ q ∈ rq, LotG n q.1 := fun q hq => rows_good (by rw [← hrq]; exact hq)
  have hrl : rs.length < 1000 := by rw [hrs]; exact Nat.lt_of_le_of_lt rows_len pre.len
  have e9 : wordD 9 none = wordT "nolot" .none := rfl
  refine s_cutR (fun G' => ∃ x16 x18, G' = g17 (.tuple [.int n, .tuple ps]) (.tuple ts) (.tuple (cs.map .int)) (.tuple [.int n, .tuple qs]) (.tuple ((turnN n pl cs).map .int)) (lotD js) (.list (((couldL n ps ts m 1).map (mvP pl)).mergeSort (PySem.W.dataLe false selfD))) (sureD n qs ts m 0) m pl x16 x18 none none) ?_ ?_
  · by_cases he : rs = []
    · refine s_if (b := false) (t_B (E.is (e_eq (d := .str "nolot") (e := .str "") (e_ixT (i := 0) (ds := [.str "nolot", .none]) ((e_lam (ok := okX K CE c) (wd := wdX c) (fun Ech => x_sharesA (a_cons e_var (a_cons e_var (a_cons e_var (a_cons e_int (a_cons e_var a_nil))))) pre) (fun x ⟨_, e⟩ => okX_non (by decide) Ek9 e)).imp fun d r => ?_) e_int rfl) e_str rfl) rfl)) (fun h => by cases h) fun _ => s_next ⟨_, _, rfl⟩
      rcases r with ⟨r, ⟨hne, rfl⟩, rfl⟩ | ⟨x, ⟨_, rfl⟩, rfl⟩
      · exact absurd (by rw [← hrs]; exact he) hne
      · show wordD (kOf c (c 9)) _ = _
        rw [Ek9.kk]
        exact e9
    · have hne : rowsW n ps ts cs 5 m ≠ [] := by rw [← hrs]; exact he
      have hneq : rowsW n qs ts (turnN n pl cs) 5 m ≠ [] := by rw [← hrq]; exact rows_nil hpm he
      refine s_if (b := true) (t_B (E.is (e_eq (d := .str "") (e := .str "") (e_ixT (i := 0) (ds := [.str "", .list (sharesL rs)]) ((e_lam (ok := okX K CE c) (wd := wdX c) (fun Ech => x_sharesA (a_cons e_var (a_cons e_var (a_cons e_var (a_cons e_int (a_cons e_var a_nil))))) pre) (fun x ⟨_, e⟩ => okX_non (by decide) Ek9 e)).imp fun d r => ?_) e_int rfl) e_str rfl) rfl)) (fun _ => ?_) fun h => by cases h
      · rcases r with ⟨r, ⟨_, rfl⟩, rfl⟩ | ⟨x, ⟨h0, rfl⟩, rfl⟩
        · rw [hrs]
        · exact absurd h0 hne
      obtain ⟨cA, cS, cD, cK, cH⟩ := pairF_ok (n := n) (hp.map_F (shares_pairs hrg))
      obtain ⟨dA, dS, dD, dK, dH⟩ := pairF_ok (n := n) (shares_pairs hrgq)
      refine s_seq (s_asg (d := .list (((sharesL rs).map (mvP pl)).mergeSort (PySem.W.dataLe false selfD))) (EL.is (el_sortA (EL.is (el_lcM (vs := [12, 17]) (ds := sharesL rs) (mvP pl) (i_list (EL.is ((el_sharesY (a_cons e_var (a_cons e_var (a_cons e_var (a_cons e_int (a_cons e_var a_nil))))) pre hne).imp fun ds e => by rw [e, hrs]))) (fun d hd => ?_) (by rw [sharesL_len]; omega))) cA cS cD)) ?_)
      · obtain ⟨a, x, y, rfl, ga⟩ := shares_pairs hrg d hd
        exact ⟨_, tg_pair (by decide) (by decide), e_tup (ds := [movedD pl (lotD a), .tuple [.int x, .int y]]) (a_cons (e_moved hp (by omega) ⟨a, rfl, ga⟩ e_var rfl) (a_cons e_var a_nil)) (by show 2 ≤ 100000; decide)⟩
      refine s_seq (s_if (b := false) (t_B (e_neSame (d := .list ((sharesL rq).mergeSort (PySem.W.dataLe false selfD))) (E.is e_var (by rw [hp.shares_sort hpm hrg])) (EL.is (el_sortA (EL.is ((el_sharesY (a_cons e_var (a_cons e_var (a_cons e_var (a_cons e_int (a_cons e_var a_nil))))) preq hneq).imp fun ds e => by rw [e, hrq])) dA dS dD)) (sh_sorted dH) (by decide))) (fun h => by cases h) fun _ => s_next ?_)
      refine s_seq (s_asg (d := .list (eachL n rs)) (EL.is ((el_eachY (a_cons e_var (a_cons e_var (a_cons e_var (a_cons e_int (a_cons e_var a_nil))))) pre hne).imp fun ds e => by rw [e, hrs])) ?_)
      refine s_if (b := false) (t_B (e_neSame (d := .list (eachL n rq)) (EL.is ((el_eachY (a_cons e_var (a_cons e_var (a_cons e_var (a_cons e_int (a_cons e_var a_nil))))) preq hneq).imp fun ds e => by rw [e, hrq])) (E.is (EL.is (el_lcM (vs := [10]) (ds := rng n) (eachP pl rs) (i_rngN (n := n) (a_cons (e_ixT (i := 0) e_var e_int rfl) a_nil) (by omega)) (fun d hd => ?_) (by rw [rng_length]; omega))) (by rw [each_map hp hpm hrg])) (k := 2) (sh_lst fun x hx => ?_) (by decide))) (fun h => by cases h) fun _ => s_next ⟨_, _, rfl⟩
      · obtain ⟨k, hk, rfl⟩ := mem_rng hd
        refine ⟨_, tg_name (by decide), e_ixL (i := posN pl k) (ds := eachL n rs) e_var (e_place hp hk rfl rfl) ?_⟩
        rw [each_get (hp.pos hk).1]
        show _ = some (eachN rs (posN pl ((k : Int).toNat)))
        rw [Int.toNat_natCast]
      · obtain ⟨k, _, rfl⟩ := List.mem_map.mp hx
        exact sh_frac
  rintro _ ⟨x16, x18, rfl⟩
  -- beside
  have shB : ∀ n' (xs : List PyData), (∀ x ∈ xs, ∃ l, x = lotD l) → Sh 3 (.tuple [.int n', .tuple xs]) := fun n' xs h => sh_tup fun x hx => by
    rcases List.mem_cons.mp hx with rfl | hx
    · exact sh_int
    · rw [List.mem_singleton.mp hx]
      exact sh_tup fun y hy => by
        obtain ⟨l, rfl⟩ := h y hy
        exact sh_lotD l
  have hps : ∀ x ∈ ps, ∃ l, x = lotD l := fun x hx => by
    obtain ⟨l, e, _⟩ := hlots x hx
    exact ⟨l, e⟩
  have hml : (mv pl js).length = js.length := mv_len js
  have more : ∀ {G : Dv.Ctx}, G[2]? = some (some (.dat (.tuple [.int n, .tuple ps]))) → G[7]? = some (some (.dat (plD pl))) → G[12]? = some (some (.dat (lotD js))) → 10 < G.length → E K T (tOp (rCatA K) (tVar 12) (tCB (rTupQ K) (tCons (tLc (iTup K (tCall (sp_lmoved K T) [] E0 (tCons (tVar 12) (tCons (tVar 7) tNil)))) (gName 10) tYes (tOp (rI0 fun i j => .int (i + j)) (tVar 10) (tOp (rIxT K) (tVar 2) (tC (.int 0)))) [10]) tNil))) G (· = lotD (bothJ n js (mv pl js))) := fun {G} g2 g7 g12 gl => by
    refine E.is (e_catT (ds := js.map fun (j : Nat) => PyData.int j) (es := ((mv pl js).map (· + n)).map fun (j : Nat) => PyData.int j) (e_var g12) (E.is (e_tupleL (a_cons (EL.is (el_lcM (vs := [10]) (ds := (mv pl js).map fun (j : Nat) => PyData.int j) (upV n) (i_tup (E.is (e_moved hp (by omega) hlj (e_var g12) g7) (movedD_lot pl js))) (fun d hd => ?_) (by rw [List.length_map]; omega))) a_nil)) (by rw [up_map])) (by rw [List.length_map, List.length_map, List.length_map]; omega)) (by unfold bothJ lotD; rw [List.map_append])
    obtain ⟨j, _, rfl⟩ := List.mem_map.mp hd
    exact ⟨_, tg_name (by decide), e_add (e_var (w10_at gl)) (e_ixT (i := 0) (ds := [.int n, .tuple ps]) (e_var (w10_ne (by decide) g2)) e_int rfl)⟩
  by_cases h6 : n < 6
  · have hbx : besideX n n ps qs = none := good_goodB h6 (by omega) (by omega)
    have hgb : GoodP (n + n) (ps ++ qs.map (upD (n : Int))) := by rw [hqs]; exact hp.goodB h6 hg (by omega)
    refine s_seq (s_asg (d := .tuple [.int ((n : Int) + (n : Int)), .tuple (ps ++ qs.map (upD (n : Int)))]) (e_if (b := true) (t_B (E.is (e_cmp (f := fun i j => decide (i < j)) (e_ixT (i := 0) e_var e_int rfl) e_int) (by rw [show decide ((n : Int) < 6) = true from decide_eq_true (by omega)]))) (fun _ => E.is (e_callD (F := K17.F_beside) (ds := [.tuple [.int n, .tuple ps], .tuple [.int n, .tuple qs]]) (a_cons e_var (a_cons e_var a_nil)) ⟨n, n, ps, qs, rfl, hg, hgq, hbx⟩) rfl) fun h => by cases h) ?_)
    refine s_seq (s_asg (d := lotD (bothJ n js (mv pl js))) (more rfl rfl rfl (by show 10 < 21; decide)) ?_)
    have hbl : isLotD ((n + n : Nat) : Int) (lotD (bothJ n js (mv pl js))) = true := isLot_good (both_good hj (hp.good hj))
    have hqq : ∀ x ∈ ps ++ qs.map (upD (n : Int)), ∃ l, x = lotD l := fun x hx => by
      obtain ⟨l, e, _⟩ := GoodP.lots hgb x hx
      exact ⟨l, e⟩
    have shAA : Sh 1 (.tuple ((ps.map fun p => ansD p (lotD js)) ++ ps.map fun p => ansD p (lotD js))) := sh_tup fun x hx => by
      have hx' : x ∈ ps.map fun p => ansD p (lotD js) := by
        rcases List.mem_append.mp hx with h | h <;> exact h
      obtain ⟨p, hp', rfl⟩ := List.mem_map.mp hx'
      obtain ⟨a, rfl, _⟩ := hlots p hp'
      exact sh_int
    have enn : ((n + n : Nat) : Int) = (n : Int) + (n : Int) := by omega
    exact s_ret (E.is (e_orV (a := false) (b := true) (E.is (e_eqD (d := .tuple [.int ((n : Int) + (n : Int)), .tuple (ps ++ qs.map (upD (n : Int)))]) (e := .tuple [.int n, .tuple ps]) e_var e_var ((shB _ _ hqq).shaped (by decide)) ((shB _ _ hps).shaped (by decide))) (by rw [both_ne _ _ .none hn1])) fun _ => E.is (e_eqD (d := .tuple ((ps.map fun p => ansD p (lotD js)) ++ ps.map fun p => ansD p (lotD js))) (e := .tuple ((ps.map fun p => ansD p (lotD js)) ++ ps.map fun p => ansD p (lotD js)))
      (E.is (e_callD (F := K17.F_answers) (ds := [.tuple [.int ((n + n : Nat) : Int), .tuple (ps ++ qs.map (upD (n : Int)))], lotD (bothJ n js (mv pl js))]) (a_cons (E.is e_var (by rw [enn])) (a_cons e_var a_nil)) ⟨n + n, _, _, rfl, hgb, hbl⟩) (by rw [hqs]; exact congrArg PyData.tuple (hp.both hlots hj)))
      (e_rep2 (ds := ps.map fun p => ansD p (lotD js)) (e_callD (F := K17.F_answers) (ds := [.tuple [.int n, .tuple ps], lotD js]) (a_cons e_var (a_cons e_var a_nil)) ⟨n, ps, _, rfl, hg, isLot_good hj⟩) e_int (by rw [List.length_map]; omega)) (shAA.shaped (by decide)) (shAA.shaped (by decide))) (by rw [shAA.refl])) rfl) rfl
  · refine s_seq (s_asg (d := .tuple [.int n, .tuple ps]) (e_if (b := false) (t_B (E.is (e_cmp (f := fun i j => decide (i < j)) (e_ixT (i := 0) e_var e_int rfl) e_int) (by rw [show decide ((n : Int) < 6) = false from decide_eq_false (by omega)]))) (fun h => by cases h) fun _ => e_var) ?_)
    refine s_seq (s_asg (d := lotD (bothJ n js (mv pl js))) (more rfl rfl rfl (by show 10 < 21; decide)) ?_)
    exact s_ret (E.is (e_orV (a := true) (b := true) (E.is (e_eqD (d := .tuple [.int n, .tuple ps]) (e := .tuple [.int n, .tuple ps]) e_var e_var ((shB _ _ hps).shaped (by decide)) ((shB _ _ hps).shaped (by decide))) (by rw [(shB _ _ hps).refl])) fun h => by cases h) rfl) rfl
end
end K17

namespace K17
open PySem PySem.Spec L2 Dv DvC DvT
open PyProof.Rows hiding St
section
variable {P : Program} {w : World} {K : PySem.W.Frag} {mg : Str → Option Value} {base : Heap} {T : List (Addr × Str)}
/-! the classes, by one check each -/
def cOf (l : List Addr) (k : Nat) : Addr := l.getD k 0
def exB (K : PySem.W.Frag) (D : Addr) : Bool := decide (PySem.W.findIn K (.ref D) "__getattribute__" = some (some (.builtin "BaseException.__getattribute__"))) && (decide (PySem.W.findIn K (.ref D) "__getattr__" = some none) && (decide (PySem.W.subIn K (.ref D) (.type "BaseException") = some true) && (PySem.W.hasDictIn K D &&
  (decide (PySem.W.findIn K (.ref D) "__class__" = some (some (.builtin "object.__class__"))) && (decide (PySem.W.specialIn K (.builtin "object.__class__") "__get__" = some (some (.builtin "getset_descriptor.__get__"))) && (decide (PySem.W.takesIn K (.builtin "object.__class__") = some true) && decide (PySem.W.mroIn K D (.type "object") = some true)))))))
theorem exB_ok {D : Addr} (h : exB K D = true) : ExcC K D := by
  unfold exB at h
  simp only [Bool.and_eq_true, decide_eq_true_eq] at h
  obtain ⟨h1, h2, h3, h4, h5, h6, h7, h8⟩ := h
  exact ⟨h1, h2, h3, h4, h5, h6, h7, h8⟩
def ekB (K : PySem.W.Frag) (CE : Addr) (c : Nat → Addr) (k : Nat) : Bool := decide (kOf c (c k) = k) && (exB K (c k) && ((List.range 10).all (fun j => decide (PySem.W.kitOne K (.ref (c k)) (.ref (c j)) = some (decide (j = k)))) && (decide (PySem.W.kitOne K (.ref (c k)) (.type "ValueError") = some true) &&
  (decide (PySem.W.exmOne K (.ref (c k)) (.ref CE) = some true) && (needF k).all fun n => decide (PySem.W.findIn K (.ref (c k)) n = some none)))))
theorem ekB_ok {CE : Addr} {c : Nat → Addr} {k : Nat} (h : ekB K CE c k = true) : EKk K CE c k := by
  unfold ekB at h
  simp only [Bool.and_eq_true, decide_eq_true_eq, List.all_eq_true] at h
  obtain ⟨h1, h2, h3, h4, h5, h6⟩ := h
  have x := exB_ok h2
  exact ⟨h1, x, ⟨x.hg, x.hk, x.hs, x.hd⟩, fun j hj => h3 j (List.mem_range.mpr hj), h4, h5, h6⟩
def Tof (Pa Pt : Addr) : List (Addr × Str) := [(Pa, lamS), (Pt, lamLaw)]
theorem vals_app {a c : List V} {b d : List Value} (h : Vals a b) (h2 : Vals c d) : Vals (a ++ c) (b ++ d) := pair_app h h2
theorem all_mk {C0 C1 C2 C3 C4 C5 C6 C7 C8 C9 CE : Addr} {csA Pa : Addr} {fI0 N0 cci0 cdai0 : Addr} {nm0 q0 : Str} {bs0 bm0 : List Value} {sn0 : List Str} {sub0 : List Value} {ab0 : Bool} {col0 : Option Bool} {dd0 : Option Addr} {k00 k10 k20 k30 k50 : Option Value} {oci0 kVi0 doci0 pmi0 cti0 ccli0 cli0 : Value} {odi0 ani0 ccdi0 cldi0 : Option Addr} {osli0 ccsi0 csli0 : Array (Option Value)} {vsi0 : Array Value} {quali0 : Str} {ji0 : Tok} {pa10 pa20 u10 u20 u30 u40 u50 u60 u70 u80 u90 u100 u110 u120 u130 : Pos} {fI1 N1 cci1 cdai1 : Addr} {nm1 q1 : Str} {bs1 bm1 : List Value} {sn1 : List Str} {sub1 : List Value} {ab1 : Bool} {col1 : Option Bool} {dd1 : Option Addr} {k01 k11 k21 k31 k51 : Option Value} {oci1 kVi1 doci1 pmi1 cti1 ccli1 cli1 : Value} {odi1 ani1 ccdi1 cldi1 : Option Addr} {osli1 ccsi1 csli1 : Array (Option Value)} {vsi1 : Array Value} {quali1 : Str} {ji1 : Tok} {pa11 pa21 u11 u21 u31 u41 u51 u61 u71 u81 u91 u101 u111 u121 u131 : Pos} {fI2 N2 cci2 cdai2 : Addr} {nm2 q2 : Str} {bs2 bm2 : List Value} {sn2 : List Str} {sub2 : List Value} {ab2 : Bool} {col2 : Option Bool} {dd2 : Option Addr} {k02 k12 k22 k32 k52 : Option Value} {oci2 kVi2 doci2 pmi2 cti2 ccli2 cli2 : Value} {odi2 ani2 ccdi2 cldi2 : Option Addr} {osli2 ccsi2 csli2 : Array (Option Value)} {vsi2 : Array Value} {quali2 : Str} {ji2 : Tok} {pa12 pa22 u12 u22 u32 u42 u52 u62 u72 u82 u92 u102 u112 u122 u132 : Pos} {l : PySem.W.OpenLaw} {w : World} {K : PySem.W.Frag} {h : Heap} {mg : Str → Option Value} {fa c Pt : Addr} (X0 : K.In h) (G : h.Ns mainGlobals mg) (hfa : mg "law" = some (.ref fa))
    {f_is_within : Addr} {od_is_within an_is_within : Option Addr} {sl_is_within : Array (Option Value)} {oc_is_within dc_is_within pm_is_within ct_is_within : Value} {kV_is_within : Value} {cd_is_within : Value}
    (a_is_within : PySem.W.nsIn K mainGlobals "is_within" = some (some (.ref f_is_within))) (l_is_within : K.lookup f_is_within = some ⟨oc_is_within, od_is_within, .func (PySem.W.fnOf "is_within" "is_within" (defArgs s_is_within) (defBody s_is_within) (defScope s_is_within) .none kV_is_within dc_is_within pm_is_within an_is_within cd_is_within ct_is_within), sl_is_within⟩) (c_is_within : PySem.W.codeIn K cd_is_within "is_within" = true) (k_is_within : PySem.W.keepIn K (.ref f_is_within) = true)
    {f_is_lot : Addr} {od_is_lot an_is_lot : Option Addr} {sl_is_lot : Array (Option Value)} {oc_is_lot dc_is_lot pm_is_lot ct_is_lot : Value} {kV_is_lot : Value} {cd_is_lot : Value}
    (a_is_lot : PySem.W.nsIn K mainGlobals "is_lot" = some (some (.ref f_is_lot))) (l_is_lot : K.lookup f_is_lot = some ⟨oc_is_lot, od_is_lot, .func (PySem.W.fnOf "is_lot" "is_lot" (defArgs s_is_lot) (defBody s_is_lot) (defScope s_is_lot) .none kV_is_lot dc_is_lot pm_is_lot an_is_lot cd_is_lot ct_is_lot), sl_is_lot⟩) (c_is_lot : PySem.W.codeIn K cd_is_lot "is_lot" = true) (k_is_lot : PySem.W.keepIn K (.ref f_is_lot) = true)
    {f_is_probe : Addr} {od_is_probe an_is_probe : Option Addr} {sl_is_probe : Array (Option Value)} {oc_is_probe dc_is_probe pm_is_probe ct_is_probe : Value} {kV_is_probe : Value} {cd_is_probe : Value}
    (a_is_probe : PySem.W.nsIn K mainGlobals "is_probe" = some (some (.ref f_is_probe))) (l_is_probe : K.lookup f_is_probe = some ⟨oc_is_probe, od_is_probe, .func (PySem.W.fnOf "is_probe" "is_probe" (defArgs s_is_probe) (defBody s_is_probe) (defScope s_is_probe) .none kV_is_probe dc_is_probe pm_is_probe an_is_probe cd_is_probe ct_is_probe), sl_is_probe⟩) (c_is_probe : PySem.W.codeIn K cd_is_probe "is_probe" = true) (k_is_probe : PySem.W.keepIn K (.ref f_is_probe) = true)
    {f_is_answer : Addr} {od_is_answer an_is_answer : Option Addr} {sl_is_answer : Array (Option Value)} {oc_is_answer dc_is_answer pm_is_answer ct_is_answer : Value} {kV_is_answer : Value} {cd_is_answer : Value}
    (a_is_answer : PySem.W.nsIn K mainGlobals "is_answer" = some (some (.ref f_is_answer))) (l_is_answer : K.lookup f_is_answer = some ⟨oc_is_answer, od_is_answer, .func (PySem.W.fnOf "is_answer" "is_answer" (defArgs s_is_answer) (defBody s_is_answer) (defScope s_is_answer) .none kV_is_answer dc_is_answer pm_is_answer an_is_answer cd_is_answer ct_is_answer), sl_is_answer⟩) (c_is_answer : PySem.W.codeIn K cd_is_answer "is_answer" = true) (k_is_answer : PySem.W.keepIn K (.ref f_is_answer) = true)
    {f_is_chance : Addr} {od_is_chance an_is_chance : Option Addr} {sl_is_chance : Array (Option Value)} {oc_is_chance dc_is_chance pm_is_chance ct_is_chance : Value} {kV_is_chance : Value} {cd_is_chance : Value}
    (a_is_chance : PySem.W.nsIn K mainGlobals "is_chance" = some (some (.ref f_is_chance))) (l_is_chance : K.lookup f_is_chance = some ⟨oc_is_chance, od_is_chance, .func (PySem.W.fnOf "is_chance" "is_chance" (defArgs s_is_chance) (defBody s_is_chance) (defScope s_is_chance) .none kV_is_chance dc_is_chance pm_is_chance an_is_chance cd_is_chance ct_is_chance), sl_is_chance⟩) (c_is_chance : PySem.W.codeIn K cd_is_chance "is_chance" = true) (k_is_chance : PySem.W.keepIn K (.ref f_is_chance) = true)
    {f_check_plan : Addr} {od_check_plan an_check_plan : Option Addr} {sl_check_plan : Array (Option Value)} {oc_check_plan dc_check_plan pm_check_plan ct_check_plan : Value} {kV_check_plan : Value} {cd_check_plan : Value}
    (a_check_plan : PySem.W.nsIn K mainGlobals "check_plan" = some (some (.ref f_check_plan))) (l_check_plan : K.lookup f_check_plan = some ⟨oc_check_plan, od_check_plan, .func (PySem.W.fnOf "check_plan" "check_plan" (defArgs s_check_plan) (defBody s_check_plan) (defScope s_check_plan) .none kV_check_plan dc_check_plan pm_check_plan an_check_plan cd_check_plan ct_check_plan), sl_check_plan⟩) (c_check_plan : PySem.W.codeIn K cd_check_plan "check_plan" = true) (k_check_plan : PySem.W.keepIn K (.ref f_check_plan) = true)
    {f_first_wrong : Addr} {od_first_wrong an_first_wrong : Option Addr} {sl_first_wrong : Array (Option Value)} {oc_first_wrong dc_first_wrong pm_first_wrong ct_first_wrong : Value} {kV_first_wrong : Value} {cd_first_wrong : Value}
    (a_first_wrong : PySem.W.nsIn K mainGlobals "first_wrong" = some (some (.ref f_first_wrong))) (l_first_wrong : K.lookup f_first_wrong = some ⟨oc_first_wrong, od_first_wrong, .func (PySem.W.fnOf "first_wrong" "first_wrong" (defArgs s_first_wrong) (defBody s_first_wrong) (defScope s_first_wrong) .none kV_first_wrong dc_first_wrong pm_first_wrong an_first_wrong cd_first_wrong ct_first_wrong), sl_first_wrong⟩) (c_first_wrong : PySem.W.codeIn K cd_first_wrong "first_wrong" = true) (k_first_wrong : PySem.W.keepIn K (.ref f_first_wrong) = true)
    {f_check_answers : Addr} {od_check_answers an_check_answers : Option Addr} {sl_check_answers : Array (Option Value)} {oc_check_answers dc_check_answers pm_check_answers ct_check_answers : Value} {kV_check_answers : Value} {cd_check_answers : Value}
    (a_check_answers : PySem.W.nsIn K mainGlobals "check_answers" = some (some (.ref f_check_answers))) (l_check_answers : K.lookup f_check_answers = some ⟨oc_check_answers, od_check_answers, .func (PySem.W.fnOf "check_answers" "check_answers" (defArgs s_check_answers) (defBody s_check_answers) (defScope s_check_answers) .none kV_check_answers dc_check_answers pm_check_answers an_check_answers cd_check_answers ct_check_answers), sl_check_answers⟩) (c_check_answers : PySem.W.codeIn K cd_check_answers "check_answers" = true) (k_check_answers : PySem.W.keepIn K (.ref f_check_answers) = true)
    {f_check_chances : Addr} {od_check_chances an_check_chances : Option Addr} {sl_check_chances : Array (Option Value)} {oc_check_chances dc_check_chances pm_check_chances ct_check_chances : Value} {kV_check_chances : Value} {cd_check_chances : Value}
    (a_check_chances : PySem.W.nsIn K mainGlobals "check_chances" = some (some (.ref f_check_chances))) (l_check_chances : K.lookup f_check_chances = some ⟨oc_check_chances, od_check_chances, .func (PySem.W.fnOf "check_chances" "check_chances" (defArgs s_check_chances) (defBody s_check_chances) (defScope s_check_chances) .none kV_check_chances dc_check_chances pm_check_chances an_check_chances cd_check_chances ct_check_chances), sl_check_chances⟩) (c_check_chances : PySem.W.codeIn K cd_check_chances "check_chances" = true) (k_check_chances : PySem.W.keepIn K (.ref f_check_chances) = true)
    {f_check_count : Addr} {od_check_count an_check_count : Option Addr} {sl_check_count : Array (Option Value)} {oc_check_count dc_check_count pm_check_count ct_check_count : Value} {kV_check_count : Value} {cd_check_count : Value}
    (a_check_count : PySem.W.nsIn K mainGlobals "check_count" = some (some (.ref f_check_count))) (l_check_count : K.lookup f_check_count = some ⟨oc_check_count, od_check_count, .func (PySem.W.fnOf "check_count" "check_count" (defArgs s_check_count) (defBody s_check_count) (defScope s_check_count) .none kV_check_count dc_check_count pm_check_count an_check_count cd_check_count ct_check_count), sl_check_count⟩) (c_check_count : PySem.W.codeIn K cd_check_count "check_count" = true) (k_check_count : PySem.W.keepIn K (.ref f_check_count) = true)
    {f_check_most : Addr} {od_check_most an_check_most : Option Addr} {sl_check_most : Array (Option Value)} {oc_check_most dc_check_most pm_check_most ct_check_most : Value} {kV_check_most : Value} {cd_check_most : Value}
    (a_check_most : PySem.W.nsIn K mainGlobals "check_most" = some (some (.ref f_check_most))) (l_check_most : K.lookup f_check_most = some ⟨oc_check_most, od_check_most, .func (PySem.W.fnOf "check_most" "check_most" (defArgs s_check_most) (defBody s_check_most) (defScope s_check_most) .none kV_check_most dc_check_most pm_check_most an_check_most cd_check_most ct_check_most), sl_check_most⟩) (c_check_most : PySem.W.codeIn K cd_check_most "check_most" = true) (k_check_most : PySem.W.keepIn K (.ref f_check_most) = true)
    {f_lots_up_to : Addr} {od_lots_up_to an_lots_up_to : Option Addr} {sl_lots_up_to : Array (Option Value)} {oc_lots_up_to dc_lots_up_to pm_lots_up_to ct_lots_up_to : Value} {kV_lots_up_to : Value} {cd_lots_up_to : Value}
    (a_lots_up_to : PySem.W.nsIn K mainGlobals "lots_up_to" = some (some (.ref f_lots_up_to))) (l_lots_up_to : K.lookup f_lots_up_to = some ⟨oc_lots_up_to, od_lots_up_to, .func (PySem.W.fnOf "lots_up_to" "lots_up_to" (defArgs s_lots_up_to) (defBody s_lots_up_to) (defScope s_lots_up_to) .none kV_lots_up_to dc_lots_up_to pm_lots_up_to an_lots_up_to cd_lots_up_to ct_lots_up_to), sl_lots_up_to⟩) (c_lots_up_to : PySem.W.codeIn K cd_lots_up_to "lots_up_to" = true) (k_lots_up_to : PySem.W.keepIn K (.ref f_lots_up_to) = true)
    {f_answer_of : Addr} {od_answer_of an_answer_of : Option Addr} {sl_answer_of : Array (Option Value)} {oc_answer_of dc_answer_of pm_answer_of ct_answer_of : Value} {kV_answer_of : Value} {cd_answer_of : Value}
    (a_answer_of : PySem.W.nsIn K mainGlobals "answer_of" = some (some (.ref f_answer_of))) (l_answer_of : K.lookup f_answer_of = some ⟨oc_answer_of, od_answer_of, .func (PySem.W.fnOf "answer_of" "answer_of" (defArgs s_answer_of) (defBody s_answer_of) (defScope s_answer_of) .none kV_answer_of dc_answer_of pm_answer_of an_answer_of cd_answer_of ct_answer_of), sl_answer_of⟩) (c_answer_of : PySem.W.codeIn K cd_answer_of "answer_of" = true) (k_answer_of : PySem.W.keepIn K (.ref f_answer_of) = true)
    {f_answers_of : Addr} {od_answers_of an_answers_of : Option Addr} {sl_answers_of : Array (Option Value)} {oc_answers_of dc_answers_of pm_answers_of ct_answers_of : Value} {kV_answers_of : Value} {cd_answers_of : Value}
    (a_answers_of : PySem.W.nsIn K mainGlobals "answers_of" = some (some (.ref f_answers_of))) (l_answers_of : K.lookup f_answers_of = some ⟨oc_answers_of, od_answers_of, .func (PySem.W.fnOf "answers_of" "answers_of" (defArgs s_answers_of) (defBody s_answers_of) (defScope s_answers_of) .none kV_answers_of dc_answers_of pm_answers_of an_answers_of cd_answers_of ct_answers_of), sl_answers_of⟩) (c_answers_of : PySem.W.codeIn K cd_answers_of "answers_of" = true) (k_answers_of : PySem.W.keepIn K (.ref f_answers_of) = true)
    {f_shares : Addr} {od_shares an_shares : Option Addr} {sl_shares : Array (Option Value)} {oc_shares dc_shares pm_shares ct_shares : Value} {kV_shares : Value}
    (a_shares : PySem.W.nsIn K mainGlobals "shares" = some (some (.ref f_shares))) (l_shares : K.lookup f_shares = some ⟨oc_shares, od_shares, .func (PySem.W.fnOf "shares" "shares" (defArgs s_shares) (defBody s_shares) (defScope s_shares) .none kV_shares dc_shares pm_shares an_shares (.ref csA) ct_shares), sl_shares⟩) (c_shares : PySem.W.codeIn K (.ref csA) "shares" = true) (k_shares : PySem.W.keepIn K (.ref f_shares) = true)
    {f_each : Addr} {od_each an_each : Option Addr} {sl_each : Array (Option Value)} {oc_each dc_each pm_each ct_each : Value} {kV_each : Value} {cd_each : Value}
    (a_each : PySem.W.nsIn K mainGlobals "each" = some (some (.ref f_each))) (l_each : K.lookup f_each = some ⟨oc_each, od_each, .func (PySem.W.fnOf "each" "each" (defArgs s_each) (defBody s_each) (defScope s_each) .none kV_each dc_each pm_each an_each cd_each ct_each), sl_each⟩) (c_each : PySem.W.codeIn K cd_each "each" = true) (k_each : PySem.W.keepIn K (.ref f_each) = true)
    {f_checked_weights : Addr} {od_checked_weights an_checked_weights : Option Addr} {sl_checked_weights : Array (Option Value)} {oc_checked_weights dc_checked_weights pm_checked_weights ct_checked_weights : Value} {kV_checked_weights : Value} {cd_checked_weights : Value}
    (a_checked_weights : PySem.W.nsIn K mainGlobals "checked_weights" = some (some (.ref f_checked_weights))) (l_checked_weights : K.lookup f_checked_weights = some ⟨oc_checked_weights, od_checked_weights, .func (PySem.W.fnOf "checked_weights" "checked_weights" (defArgs s_checked_weights) (defBody s_checked_weights) (defScope s_checked_weights) .none kV_checked_weights dc_checked_weights pm_checked_weights an_checked_weights cd_checked_weights ct_checked_weights), sl_checked_weights⟩) (c_checked_weights : PySem.W.codeIn K cd_checked_weights "checked_weights" = true) (k_checked_weights : PySem.W.keepIn K (.ref f_checked_weights) = true)
    {f_weights : Addr} {od_weights an_weights : Option Addr} {sl_weights : Array (Option Value)} {oc_weights dc_weights pm_weights ct_weights : Value} {kV_weights : Value} {cd_weights : Value}
    (a_weights : PySem.W.nsIn K mainGlobals "weights" = some (some (.ref f_weights))) (l_weights : K.lookup f_weights = some ⟨oc_weights, od_weights, .func (PySem.W.fnOf "weights" "weights" (defArgs s_weights) (defBody s_weights) (defScope s_weights) .none kV_weights dc_weights pm_weights an_weights cd_weights ct_weights), sl_weights⟩) (c_weights : PySem.W.codeIn K cd_weights "weights" = true) (k_weights : PySem.W.keepIn K (.ref f_weights) = true)
    {f_lot_weight : Addr} {od_lot_weight an_lot_weight : Option Addr} {sl_lot_weight : Array (Option Value)} {oc_lot_weight dc_lot_weight pm_lot_weight ct_lot_weight : Value} {kV_lot_weight : Value} {cd_lot_weight : Value}
    (a_lot_weight : PySem.W.nsIn K mainGlobals "lot_weight" = some (some (.ref f_lot_weight))) (l_lot_weight : K.lookup f_lot_weight = some ⟨oc_lot_weight, od_lot_weight, .func (PySem.W.fnOf "lot_weight" "lot_weight" (defArgs s_lot_weight) (defBody s_lot_weight) (defScope s_lot_weight) .none kV_lot_weight dc_lot_weight pm_lot_weight an_lot_weight cd_lot_weight ct_lot_weight), sl_lot_weight⟩) (c_lot_weight : PySem.W.codeIn K cd_lot_weight "lot_weight" = true) (k_lot_weight : PySem.W.keepIn K (.ref f_lot_weight) = true)
    {f_told_weight : Addr} {od_told_weight an_told_weight : Option Addr} {sl_told_weight : Array (Option Value)} {oc_told_weight dc_told_weight pm_told_weight ct_told_weight : Value} {kV_told_weight : Value} {cd_told_weight : Value}
    (a_told_weight : PySem.W.nsIn K mainGlobals "told_weight" = some (some (.ref f_told_weight))) (l_told_weight : K.lookup f_told_weight = some ⟨oc_told_weight, od_told_weight, .func (PySem.W.fnOf "told_weight" "told_weight" (defArgs s_told_weight) (defBody s_told_weight) (defScope s_told_weight) .none kV_told_weight dc_told_weight pm_told_weight an_told_weight cd_told_weight ct_told_weight), sl_told_weight⟩) (c_told_weight : PySem.W.codeIn K cd_told_weight "told_weight" = true) (k_told_weight : PySem.W.keepIn K (.ref f_told_weight) = true)
    {f_sum_of : Addr} {od_sum_of an_sum_of : Option Addr} {sl_sum_of : Array (Option Value)} {oc_sum_of dc_sum_of pm_sum_of ct_sum_of : Value} {kV_sum_of : Value} {cd_sum_of : Value}
    (a_sum_of : PySem.W.nsIn K mainGlobals "sum_of" = some (some (.ref f_sum_of))) (l_sum_of : K.lookup f_sum_of = some ⟨oc_sum_of, od_sum_of, .func (PySem.W.fnOf "sum_of" "sum_of" (defArgs s_sum_of) (defBody s_sum_of) (defScope s_sum_of) .none kV_sum_of dc_sum_of pm_sum_of an_sum_of cd_sum_of ct_sum_of), sl_sum_of⟩) (c_sum_of : PySem.W.codeIn K cd_sum_of "sum_of" = true) (k_sum_of : PySem.W.keepIn K (.ref f_sum_of) = true)
    {f_fraction : Addr} {od_fraction an_fraction : Option Addr} {sl_fraction : Array (Option Value)} {oc_fraction dc_fraction pm_fraction ct_fraction : Value} {kV_fraction : Value} {cd_fraction : Value}
    (a_fraction : PySem.W.nsIn K mainGlobals "fraction" = some (some (.ref f_fraction))) (l_fraction : K.lookup f_fraction = some ⟨oc_fraction, od_fraction, .func (PySem.W.fnOf "fraction" "fraction" (defArgs s_fraction) (defBody s_fraction) (defScope s_fraction) .none kV_fraction dc_fraction pm_fraction an_fraction cd_fraction ct_fraction), sl_fraction⟩) (c_fraction : PySem.W.codeIn K cd_fraction "fraction" = true) (k_fraction : PySem.W.keepIn K (.ref f_fraction) = true)
    {f__law_row : Addr} {od__law_row an__law_row : Option Addr} {sl__law_row : Array (Option Value)} {oc__law_row dc__law_row pm__law_row ct__law_row : Value} {kV__law_row : Value} {cd__law_row : Value}
    (a__law_row : PySem.W.nsIn K mainGlobals "_law_row" = some (some (.ref f__law_row))) (l__law_row : K.lookup f__law_row = some ⟨oc__law_row, od__law_row, .func (PySem.W.fnOf "_law_row" "_law_row" (defArgs s__law_row) (defBody s__law_row) (defScope s__law_row) .none kV__law_row dc__law_row pm__law_row an__law_row cd__law_row ct__law_row), sl__law_row⟩) (c__law_row : PySem.W.codeIn K cd__law_row "_law_row" = true) (k__law_row : PySem.W.keepIn K (.ref f__law_row) = true)
    {f__law_taken : Addr} {od__law_taken an__law_taken : Option Addr} {sl__law_taken : Array (Option Value)} {oc__law_taken dc__law_taken pm__law_taken ct__law_taken : Value} {kV__law_taken : Value} {cd__law_taken : Value}
    (a__law_taken : PySem.W.nsIn K mainGlobals "_law_taken" = some (some (.ref f__law_taken))) (l__law_taken : K.lookup f__law_taken = some ⟨oc__law_taken, od__law_taken, .func (PySem.W.fnOf "_law_taken" "_law_taken" (defArgs s__law_taken) (defBody s__law_taken) (defScope s__law_taken) .none kV__law_taken dc__law_taken pm__law_taken an__law_taken cd__law_taken ct__law_taken), sl__law_taken⟩) (c__law_taken : PySem.W.codeIn K cd__law_taken "_law_taken" = true) (k__law_taken : PySem.W.keepIn K (.ref f__law_taken) = true)
    {f__law_lot : Addr} {od__law_lot an__law_lot : Option Addr} {sl__law_lot : Array (Option Value)} {oc__law_lot dc__law_lot pm__law_lot ct__law_lot : Value} {kV__law_lot : Value} {cd__law_lot : Value}
    (a__law_lot : PySem.W.nsIn K mainGlobals "_law_lot" = some (some (.ref f__law_lot))) (l__law_lot : K.lookup f__law_lot = some ⟨oc__law_lot, od__law_lot, .func (PySem.W.fnOf "_law_lot" "_law_lot" (defArgs s__law_lot) (defBody s__law_lot) (defScope s__law_lot) .none kV__law_lot dc__law_lot pm__law_lot an__law_lot cd__law_lot ct__law_lot), sl__law_lot⟩) (c__law_lot : PySem.W.codeIn K cd__law_lot "_law_lot" = true) (k__law_lot : PySem.W.keepIn K (.ref f__law_lot) = true)
    {f__law_plan : Addr} {od__law_plan an__law_plan : Option Addr} {sl__law_plan : Array (Option Value)} {oc__law_plan dc__law_plan pm__law_plan ct__law_plan : Value} {kV__law_plan : Value} {cd__law_plan : Value}
    (a__law_plan : PySem.W.nsIn K mainGlobals "_law_plan" = some (some (.ref f__law_plan))) (l__law_plan : K.lookup f__law_plan = some ⟨oc__law_plan, od__law_plan, .func (PySem.W.fnOf "_law_plan" "_law_plan" (defArgs s__law_plan) (defBody s__law_plan) (defScope s__law_plan) .none kV__law_plan dc__law_plan pm__law_plan an__law_plan cd__law_plan ct__law_plan), sl__law_plan⟩) (c__law_plan : PySem.W.codeIn K cd__law_plan "_law_plan" = true) (k__law_plan : PySem.W.keepIn K (.ref f__law_plan) = true)
    {f__law_answers : Addr} {od__law_answers an__law_answers : Option Addr} {sl__law_answers : Array (Option Value)} {oc__law_answers dc__law_answers pm__law_answers ct__law_answers : Value} {kV__law_answers : Value} {cd__law_answers : Value}
    (a__law_answers : PySem.W.nsIn K mainGlobals "_law_answers" = some (some (.ref f__law_answers))) (l__law_answers : K.lookup f__law_answers = some ⟨oc__law_answers, od__law_answers, .func (PySem.W.fnOf "_law_answers" "_law_answers" (defArgs s__law_answers) (defBody s__law_answers) (defScope s__law_answers) .none kV__law_answers dc__law_answers pm__law_answers an__law_answers cd__law_answers ct__law_answers), sl__law_answers⟩) (c__law_answers : PySem.W.codeIn K cd__law_answers "_law_answers" = true) (k__law_answers : PySem.W.keepIn K (.ref f__law_answers) = true)
    {f__law_said : Addr} {od__law_said an__law_said : Option Addr} {sl__law_said : Array (Option Value)} {oc__law_said dc__law_said pm__law_said ct__law_said : Value} {kV__law_said : Value} {cd__law_said : Value}
    (a__law_said : PySem.W.nsIn K mainGlobals "_law_said" = some (some (.ref f__law_said))) (l__law_said : K.lookup f__law_said = some ⟨oc__law_said, od__law_said, .func (PySem.W.fnOf "_law_said" "_law_said" (defArgs s__law_said) (defBody s__law_said) (defScope s__law_said) .none kV__law_said dc__law_said pm__law_said an__law_said cd__law_said ct__law_said), sl__law_said⟩) (c__law_said : PySem.W.codeIn K cd__law_said "_law_said" = true) (k__law_said : PySem.W.keepIn K (.ref f__law_said) = true)
    {f__law_chances : Addr} {od__law_chances an__law_chances : Option Addr} {sl__law_chances : Array (Option Value)} {oc__law_chances dc__law_chances pm__law_chances ct__law_chances : Value} {kV__law_chances : Value} {cd__law_chances : Value}
    (a__law_chances : PySem.W.nsIn K mainGlobals "_law_chances" = some (some (.ref f__law_chances))) (l__law_chances : K.lookup f__law_chances = some ⟨oc__law_chances, od__law_chances, .func (PySem.W.fnOf "_law_chances" "_law_chances" (defArgs s__law_chances) (defBody s__law_chances) (defScope s__law_chances) .none kV__law_chances dc__law_chances pm__law_chances an__law_chances cd__law_chances ct__law_chances), sl__law_chances⟩) (c__law_chances : PySem.W.codeIn K cd__law_chances "_law_chances" = true) (k__law_chances : PySem.W.keepIn K (.ref f__law_chances) = true)
    {f__law_word : Addr} {od__law_word an__law_word : Option Addr} {sl__law_word : Array (Option Value)} {oc__law_word dc__law_word pm__law_word ct__law_word : Value} {kV__law_word : Value} {cd__law_word : Value}
    (a__law_word : PySem.W.nsIn K mainGlobals "_law_word" = some (some (.ref f__law_word))) (l__law_word : K.lookup f__law_word = some ⟨oc__law_word, od__law_word, .func (PySem.W.fnOf "_law_word" "_law_word" (defArgs s__law_word) (defBody s__law_word) (defScope s__law_word) .none kV__law_word dc__law_word pm__law_word an__law_word cd__law_word ct__law_word), sl__law_word⟩) (c__law_word : PySem.W.codeIn K cd__law_word "_law_word" = true) (k__law_word : PySem.W.keepIn K (.ref f__law_word) = true)
    {f_check_slips : Addr} {od_check_slips an_check_slips : Option Addr} {sl_check_slips : Array (Option Value)} {oc_check_slips dc_check_slips pm_check_slips ct_check_slips : Value} {kV_check_slips : Value} {cd_check_slips : Value}
    (a_check_slips : PySem.W.nsIn K mainGlobals "check_slips" = some (some (.ref f_check_slips))) (l_check_slips : K.lookup f_check_slips = some ⟨oc_check_slips, od_check_slips, .func (PySem.W.fnOf "check_slips" "check_slips" (defArgs s_check_slips) (defBody s_check_slips) (defScope s_check_slips) .none kV_check_slips dc_check_slips pm_check_slips an_check_slips cd_check_slips ct_check_slips), sl_check_slips⟩) (c_check_slips : PySem.W.codeIn K cd_check_slips "check_slips" = true) (k_check_slips : PySem.W.keepIn K (.ref f_check_slips) = true)
    {f_check_lot : Addr} {od_check_lot an_check_lot : Option Addr} {sl_check_lot : Array (Option Value)} {oc_check_lot dc_check_lot pm_check_lot ct_check_lot : Value} {kV_check_lot : Value} {cd_check_lot : Value}
    (a_check_lot : PySem.W.nsIn K mainGlobals "check_lot" = some (some (.ref f_check_lot))) (l_check_lot : K.lookup f_check_lot = some ⟨oc_check_lot, od_check_lot, .func (PySem.W.fnOf "check_lot" "check_lot" (defArgs s_check_lot) (defBody s_check_lot) (defScope s_check_lot) .none kV_check_lot dc_check_lot pm_check_lot an_check_lot cd_check_lot ct_check_lot), sl_check_lot⟩) (c_check_lot : PySem.W.codeIn K cd_check_lot "check_lot" = true) (k_check_lot : PySem.W.keepIn K (.ref f_check_lot) = true)
    {f_slips_in : Addr} {od_slips_in an_slips_in : Option Addr} {sl_slips_in : Array (Option Value)} {oc_slips_in dc_slips_in pm_slips_in ct_slips_in : Value} {kV_slips_in : Value} {cd_slips_in : Value}
    (a_slips_in : PySem.W.nsIn K mainGlobals "slips_in" = some (some (.ref f_slips_in))) (l_slips_in : K.lookup f_slips_in = some ⟨oc_slips_in, od_slips_in, .func (PySem.W.fnOf "slips_in" "slips_in" (defArgs s_slips_in) (defBody s_slips_in) (defScope s_slips_in) .none kV_slips_in dc_slips_in pm_slips_in an_slips_in cd_slips_in ct_slips_in), sl_slips_in⟩) (c_slips_in : PySem.W.codeIn K cd_slips_in "slips_in" = true) (k_slips_in : PySem.W.keepIn K (.ref f_slips_in) = true)
    {f_how_many_have : Addr} {od_how_many_have an_how_many_have : Option Addr} {sl_how_many_have : Array (Option Value)} {oc_how_many_have dc_how_many_have pm_how_many_have ct_how_many_have : Value} {kV_how_many_have : Value} {cd_how_many_have : Value}
    (a_how_many_have : PySem.W.nsIn K mainGlobals "how_many_have" = some (some (.ref f_how_many_have))) (l_how_many_have : K.lookup f_how_many_have = some ⟨oc_how_many_have, od_how_many_have, .func (PySem.W.fnOf "how_many_have" "how_many_have" (defArgs s_how_many_have) (defBody s_how_many_have) (defScope s_how_many_have) .none kV_how_many_have dc_how_many_have pm_how_many_have an_how_many_have cd_how_many_have ct_how_many_have), sl_how_many_have⟩) (c_how_many_have : PySem.W.codeIn K cd_how_many_have "how_many_have" = true) (k_how_many_have : PySem.W.keepIn K (.ref f_how_many_have) = true)
    {f_answers : Addr} {od_answers an_answers : Option Addr} {sl_answers : Array (Option Value)} {oc_answers dc_answers pm_answers ct_answers : Value} {kV_answers : Value} {cd_answers : Value}
    (a_answers : PySem.W.nsIn K mainGlobals "answers" = some (some (.ref f_answers))) (l_answers : K.lookup f_answers = some ⟨oc_answers, od_answers, .func (PySem.W.fnOf "answers" "answers" (defArgs s_answers) (defBody s_answers) (defScope s_answers) .none kV_answers dc_answers pm_answers an_answers cd_answers ct_answers), sl_answers⟩) (c_answers : PySem.W.codeIn K cd_answers "answers" = true) (k_answers : PySem.W.keepIn K (.ref f_answers) = true)
    {f_kinds : Addr} {od_kinds an_kinds : Option Addr} {sl_kinds : Array (Option Value)} {oc_kinds dc_kinds pm_kinds ct_kinds : Value} {kV_kinds : Value} {cd_kinds : Value}
    (a_kinds : PySem.W.nsIn K mainGlobals "kinds" = some (some (.ref f_kinds))) (l_kinds : K.lookup f_kinds = some ⟨oc_kinds, od_kinds, .func (PySem.W.fnOf "kinds" "kinds" (defArgs s_kinds) (defBody s_kinds) (defScope s_kinds) .none kV_kinds dc_kinds pm_kinds an_kinds cd_kinds ct_kinds), sl_kinds⟩) (c_kinds : PySem.W.codeIn K cd_kinds "kinds" = true) (k_kinds : PySem.W.keepIn K (.ref f_kinds) = true)
    {f_how_many_unlike : Addr} {od_how_many_unlike an_how_many_unlike : Option Addr} {sl_how_many_unlike : Array (Option Value)} {oc_how_many_unlike dc_how_many_unlike pm_how_many_unlike ct_how_many_unlike : Value} {kV_how_many_unlike : Value} {cd_how_many_unlike : Value}
    (a_how_many_unlike : PySem.W.nsIn K mainGlobals "how_many_unlike" = some (some (.ref f_how_many_unlike))) (l_how_many_unlike : K.lookup f_how_many_unlike = some ⟨oc_how_many_unlike, od_how_many_unlike, .func (PySem.W.fnOf "how_many_unlike" "how_many_unlike" (defArgs s_how_many_unlike) (defBody s_how_many_unlike) (defScope s_how_many_unlike) .none kV_how_many_unlike dc_how_many_unlike pm_how_many_unlike an_how_many_unlike cd_how_many_unlike ct_how_many_unlike), sl_how_many_unlike⟩) (c_how_many_unlike : PySem.W.codeIn K cd_how_many_unlike "how_many_unlike" = true) (k_how_many_unlike : PySem.W.keepIn K (.ref f_how_many_unlike) = true)
    {f_idle : Addr} {od_idle an_idle : Option Addr} {sl_idle : Array (Option Value)} {oc_idle dc_idle pm_idle ct_idle : Value} {kV_idle : Value} {cd_idle : Value}
    (a_idle : PySem.W.nsIn K mainGlobals "idle" = some (some (.ref f_idle))) (l_idle : K.lookup f_idle = some ⟨oc_idle, od_idle, .func (PySem.W.fnOf "idle" "idle" (defArgs s_idle) (defBody s_idle) (defScope s_idle) .none kV_idle dc_idle pm_idle an_idle cd_idle ct_idle), sl_idle⟩) (c_idle : PySem.W.codeIn K cd_idle "idle" = true) (k_idle : PySem.W.keepIn K (.ref f_idle) = true)
    {f_without : Addr} {od_without an_without : Option Addr} {sl_without : Array (Option Value)} {oc_without dc_without pm_without ct_without : Value} {kV_without : Value} {cd_without : Value}
    (a_without : PySem.W.nsIn K mainGlobals "without" = some (some (.ref f_without))) (l_without : K.lookup f_without = some ⟨oc_without, od_without, .func (PySem.W.fnOf "without" "without" (defArgs s_without) (defBody s_without) (defScope s_without) .none kV_without dc_without pm_without an_without cd_without ct_without), sl_without⟩) (c_without : PySem.W.codeIn K cd_without "without" = true) (k_without : PySem.W.keepIn K (.ref f_without) = true)
    {f_beside : Addr} {od_beside an_beside : Option Addr} {sl_beside : Array (Option Value)} {oc_beside dc_beside pm_beside ct_beside : Value} {kV_beside : Value} {cd_beside : Value}
    (a_beside : PySem.W.nsIn K mainGlobals "beside" = some (some (.ref f_beside))) (l_beside : K.lookup f_beside = some ⟨oc_beside, od_beside, .func (PySem.W.fnOf "beside" "beside" (defArgs s_beside) (defBody s_beside) (defScope s_beside) .none kV_beside dc_beside pm_beside an_beside cd_beside ct_beside), sl_beside⟩) (c_beside : PySem.W.codeIn K cd_beside "beside" = true) (k_beside : PySem.W.keepIn K (.ref f_beside) = true)
    {f_moved : Addr} {od_moved an_moved : Option Addr} {sl_moved : Array (Option Value)} {oc_moved dc_moved pm_moved ct_moved : Value} {kV_moved : Value} {cd_moved : Value}
    (a_moved : PySem.W.nsIn K mainGlobals "moved" = some (some (.ref f_moved))) (l_moved : K.lookup f_moved = some ⟨oc_moved, od_moved, .func (PySem.W.fnOf "moved" "moved" (defArgs s_moved) (defBody s_moved) (defScope s_moved) .none kV_moved dc_moved pm_moved an_moved cd_moved ct_moved), sl_moved⟩) (c_moved : PySem.W.codeIn K cd_moved "moved" = true) (k_moved : PySem.W.keepIn K (.ref f_moved) = true)
    {f__law_moved : Addr} {od__law_moved an__law_moved : Option Addr} {sl__law_moved : Array (Option Value)} {oc__law_moved dc__law_moved pm__law_moved ct__law_moved : Value} {kV__law_moved : Value} {cd__law_moved : Value}
    (a__law_moved : PySem.W.nsIn K mainGlobals "_law_moved" = some (some (.ref f__law_moved))) (l__law_moved : K.lookup f__law_moved = some ⟨oc__law_moved, od__law_moved, .func (PySem.W.fnOf "_law_moved" "_law_moved" (defArgs s__law_moved) (defBody s__law_moved) (defScope s__law_moved) .none kV__law_moved dc__law_moved pm__law_moved an__law_moved cd__law_moved ct__law_moved), sl__law_moved⟩) (c__law_moved : PySem.W.codeIn K cd__law_moved "_law_moved" = true) (k__law_moved : PySem.W.keepIn K (.ref f__law_moved) = true)
    {f_could : Addr} {od_could an_could : Option Addr} {sl_could : Array (Option Value)} {oc_could dc_could pm_could ct_could : Value} {D_could : Addr} {t_could : Tok} {cd_could : Value}
    (a_could : PySem.W.nsIn K mainGlobals "could" = some (some (.ref f_could))) (l_could : K.lookup f_could = some ⟨oc_could, od_could, .func (PySem.W.fnOf "could" "could" (defArgs s_could) (defBody s_could) (defScope s_could) .none (.ref D_could) dc_could pm_could an_could cd_could ct_could), sl_could⟩) (c_could : PySem.W.codeIn K cd_could "could" = true) (k_could : PySem.W.keepIn K (.ref f_could) = true)
    (n_could : PySem.W.nsIn K D_could "slips" = some (some (.int 0 t_could)))
    {f_sure : Addr} {od_sure an_sure : Option Addr} {sl_sure : Array (Option Value)} {oc_sure dc_sure pm_sure ct_sure : Value} {D_sure : Addr} {t_sure : Tok} {cd_sure : Value}
    (a_sure : PySem.W.nsIn K mainGlobals "sure" = some (some (.ref f_sure))) (l_sure : K.lookup f_sure = some ⟨oc_sure, od_sure, .func (PySem.W.fnOf "sure" "sure" (defArgs s_sure) (defBody s_sure) (defScope s_sure) .none (.ref D_sure) dc_sure pm_sure an_sure cd_sure ct_sure), sl_sure⟩) (c_sure : PySem.W.codeIn K cd_sure "sure" = true) (k_sure : PySem.W.keepIn K (.ref f_sure) = true)
    (n_sure : PySem.W.nsIn K D_sure "slips" = some (some (.int 0 t_sure)))
    {f_law : Addr} {od_law an_law : Option Addr} {sl_law : Array (Option Value)} {oc_law dc_law pm_law ct_law : Value} {kV_law : Value} 
    (a_law : PySem.W.nsIn K mainGlobals "law" = some (some (.ref f_law))) (l_law : K.lookup f_law = some ⟨oc_law, od_law, .func (PySem.W.fnOf "law" "law" (defArgs s_law) (defBody s_law) (defScope s_law) .none kV_law dc_law pm_law an_law (.ref c) ct_law), sl_law⟩) (c_law : PySem.W.codeIn K (.ref c) "law" = true) (k_law : PySem.W.keepIn K (.ref f_law) = true)
    {t_MOST_THINGS : Tok} (a_MOST_THINGS : PySem.W.nsIn K mainGlobals "MOST_THINGS" = some (some (.int 10 t_MOST_THINGS)))
    {t_MOST_PROBES : Tok} (a_MOST_PROBES : PySem.W.nsIn K mainGlobals "MOST_PROBES" = some (some (.int 16 t_MOST_PROBES)))
    {t_MOST_BAD : Tok} (a_MOST_BAD : PySem.W.nsIn K mainGlobals "MOST_BAD" = some (some (.int 3 t_MOST_BAD)))
    {t_MOST_SLIPS : Tok} (a_MOST_SLIPS : PySem.W.nsIn K mainGlobals "MOST_SLIPS" = some (some (.int 16 t_MOST_SLIPS)))
    {t_HUNDRED : Tok} (a_HUNDRED : PySem.W.nsIn K mainGlobals "HUNDRED" = some (some (.int 100 t_HUNDRED)))
    (z_len : PySem.W.nsIn K mainGlobals "len" = some none)
    (z_any : PySem.W.nsIn K mainGlobals "any" = some none)
    (z_sum : PySem.W.nsIn K mainGlobals "sum" = some none)
    (z_isinstance : PySem.W.nsIn K mainGlobals "isinstance" = some none)
    (z_tuple : PySem.W.nsIn K mainGlobals "tuple" = some none)
    (z_list : PySem.W.nsIn K mainGlobals "list" = some none)
    (z_int : PySem.W.nsIn K mainGlobals "int" = some none)
    (z_bool : PySem.W.nsIn K mainGlobals "bool" = some none)
    (z_str : PySem.W.nsIn K mainGlobals "str" = some none)
    (z_range : PySem.W.nsIn K mainGlobals "range" = some none)
    (z_enumerate : PySem.W.nsIn K mainGlobals "enumerate" = some none)
    (z_zip : PySem.W.nsIn K mainGlobals "zip" = some none)
    (z_sorted : PySem.W.nsIn K mainGlobals "sorted" = some none)
    (z_ValueError : PySem.W.nsIn K mainGlobals "ValueError" = some none)
    (z_super : PySem.W.nsIn K mainGlobals "super" = some none)
    (a_BadPlan : PySem.W.nsIn K mainGlobals "BadPlan" = some (some (.ref C0)))
    (a_BadAnswers : PySem.W.nsIn K mainGlobals "BadAnswers" = some (some (.ref C1)))
    (a_BadChances : PySem.W.nsIn K mainGlobals "BadChances" = some (some (.ref C2)))
    (a_BadDeed : PySem.W.nsIn K mainGlobals "BadDeed" = some (some (.ref C3)))
    (a_Halted : PySem.W.nsIn K mainGlobals "Halted" = some (some (.ref C4)))
    (a_BadTree : PySem.W.nsIn K mainGlobals "BadTree" = some (some (.ref C5)))
    (a_BadText : PySem.W.nsIn K mainGlobals "BadText" = some (some (.ref C6)))
    (a_BadLot : PySem.W.nsIn K mainGlobals "BadLot" = some (some (.ref C7)))
    (a_BadCount : PySem.W.nsIn K mainGlobals "BadCount" = some (some (.ref C8)))
    (a_NoLot : PySem.W.nsIn K mainGlobals "NoLot" = some (some (.ref C9)))
    (a_ProbeError : PySem.W.nsIn K mainGlobals "ProbeError" = some (some (.ref CE)))
    (a_comb : PySem.W.nsIn K mainGlobals "combinations" = some (some (.type "itertools.combinations")))
    (a_gcd : PySem.W.nsIn K mainGlobals "gcd" = some (some (.builtin "math.gcd")))
    (l_B0 : K.lookup C0 = some (excClassObj nm0 q0 C0 N0 bs0 bm0 true sn0 sub0 ab0 col0 dd0 k00 k10 k20 k30 k50 "ValueError.__new__")) (r_B0 : PySem.HandSPX.refsVE bm0 = true) (al_B0 : PySem.W.alongIn K "__init__" bm0 = some (some (.builtin "ValueError.__init__")))
    (ini_B0 : PySem.W.excInitIn K C0 PySem.HandSPX.veTail "ValueError.__new__" = true) (sa_B0 : PySem.W.findIn K (.ref C0) "__setattr__" = some (some (.builtin "object.__setattr__"))) (no_B0 : PySem.W.findIn K (.ref C0) "number" = some none)
    (sb_B0 : PySem.W.subIn K (.ref C0) (.type "BaseException") = some true) (ty_B0 : PySem.W.typeIn K (.ref C0) = some (.type "type")) (kp_B0 : PySem.W.keepIn K (.ref C0) = true) (fi_B0 : PySem.W.findIn K (.ref C0) "__init__" = some (some (.ref fI0))) (tf_B0 : PySem.W.typeIn K (.ref fI0) = some (.type "function"))
    (l_fI0 : K.lookup fI0 = some ⟨oci0, odi0, .func (PySem.W.fnX "__init__" quali0 (PySem.XIn.iA "number" pa10 pa20) (PySem.XIn.iB "number" "number" "no plan, by " ji0 u10 u20 u30 u40 u50 u60 u70 u80 u90 u100 u110 u120 u130) (PySem.XIn.iS "number") [("__class__", cci0)] .none kVi0 doci0 pmi0 ani0 (.ref cdai0) cti0), osli0⟩)
    (n_fI0 : (u30.endLine == u80.line) = true) (c_fI0 : PySem.W.codeIn K (.ref cdai0) quali0 = true) (l_cd0 : K.lookup cdai0 = some ⟨ccli0, ccdi0, .fields vsi0, ccsi0⟩) (v_cd0 : ∃ (file : Str) (t : Tok), vsi0[2]? = some (.str file t) ∧ ((l.prog.main.file : Str) == file) = true) (l_cc0 : K.lookup cci0 = some ⟨cli0, cldi0, .cell (some (.ref C0)), csli0⟩)
    (l_B1 : K.lookup C1 = some (excClassObj nm1 q1 C1 N1 bs1 bm1 true sn1 sub1 ab1 col1 dd1 k01 k11 k21 k31 k51 "ValueError.__new__")) (r_B1 : PySem.HandSPX.refsVE bm1 = true) (al_B1 : PySem.W.alongIn K "__init__" bm1 = some (some (.builtin "ValueError.__init__")))
    (ini_B1 : PySem.W.excInitIn K C1 PySem.HandSPX.veTail "ValueError.__new__" = true) (sa_B1 : PySem.W.findIn K (.ref C1) "__setattr__" = some (some (.builtin "object.__setattr__"))) (no_B1 : PySem.W.findIn K (.ref C1) "number" = some none)
    (sb_B1 : PySem.W.subIn K (.ref C1) (.type "BaseException") = some true) (ty_B1 : PySem.W.typeIn K (.ref C1) = some (.type "type")) (kp_B1 : PySem.W.keepIn K (.ref C1) = true) (fi_B1 : PySem.W.findIn K (.ref C1) "__init__" = some (some (.ref fI1))) (tf_B1 : PySem.W.typeIn K (.ref fI1) = some (.type "function"))
    (l_fI1 : K.lookup fI1 = some ⟨oci1, odi1, .func (PySem.W.fnX "__init__" quali1 (PySem.XIn.iA "number" pa11 pa21) (PySem.XIn.iB "number" "number" "no answers, by " ji1 u11 u21 u31 u41 u51 u61 u71 u81 u91 u101 u111 u121 u131) (PySem.XIn.iS "number") [("__class__", cci1)] .none kVi1 doci1 pmi1 ani1 (.ref cdai1) cti1), osli1⟩)
    (n_fI1 : (u31.endLine == u81.line) = true) (c_fI1 : PySem.W.codeIn K (.ref cdai1) quali1 = true) (l_cd1 : K.lookup cdai1 = some ⟨ccli1, ccdi1, .fields vsi1, ccsi1⟩) (v_cd1 : ∃ (file : Str) (t : Tok), vsi1[2]? = some (.str file t) ∧ ((l.prog.main.file : Str) == file) = true) (l_cc1 : K.lookup cci1 = some ⟨cli1, cldi1, .cell (some (.ref C1)), csli1⟩)
    (l_B2 : K.lookup C2 = some (excClassObj nm2 q2 C2 N2 bs2 bm2 true sn2 sub2 ab2 col2 dd2 k02 k12 k22 k32 k52 "ValueError.__new__")) (r_B2 : PySem.HandSPX.refsVE bm2 = true) (al_B2 : PySem.W.alongIn K "__init__" bm2 = some (some (.builtin "ValueError.__init__")))
    (ini_B2 : PySem.W.excInitIn K C2 PySem.HandSPX.veTail "ValueError.__new__" = true) (sa_B2 : PySem.W.findIn K (.ref C2) "__setattr__" = some (some (.builtin "object.__setattr__"))) (no_B2 : PySem.W.findIn K (.ref C2) "number" = some none)
    (sb_B2 : PySem.W.subIn K (.ref C2) (.type "BaseException") = some true) (ty_B2 : PySem.W.typeIn K (.ref C2) = some (.type "type")) (kp_B2 : PySem.W.keepIn K (.ref C2) = true) (fi_B2 : PySem.W.findIn K (.ref C2) "__init__" = some (some (.ref fI2))) (tf_B2 : PySem.W.typeIn K (.ref fI2) = some (.type "function"))
    (l_fI2 : K.lookup fI2 = some ⟨oci2, odi2, .func (PySem.W.fnX "__init__" quali2 (PySem.XIn.iA "number" pa12 pa22) (PySem.XIn.iB "number" "number" "no chances, by " ji2 u12 u22 u32 u42 u52 u62 u72 u82 u92 u102 u112 u122 u132) (PySem.XIn.iS "number") [("__class__", cci2)] .none kVi2 doci2 pmi2 ani2 (.ref cdai2) cti2), osli2⟩)
    (n_fI2 : (u32.endLine == u82.line) = true) (c_fI2 : PySem.W.codeIn K (.ref cdai2) quali2 = true) (l_cd2 : K.lookup cdai2 = some ⟨ccli2, ccdi2, .fields vsi2, ccsi2⟩) (v_cd2 : ∃ (file : Str) (t : Tok), vsi2[2]? = some (.str file t) ∧ ((l.prog.main.file : Str) == file) = true) (l_cc2 : K.lookup cci2 = some ⟨cli2, cldi2, .cell (some (.ref C2)), csli2⟩)
    (t_sup : (l.prog.main.scope.names.lookup ("super" : Str)).isSome = false) (o_sup : PySem.W.nsIn K PySem.cStatics "thirdparty.any" = some none)
    (q_7 : PySem.W.excIn K C7 PySem.HandSPX.veTail "ValueError.__new__" = true) (kp_7 : PySem.W.keepIn K (.ref C7) = true) (sb_7 : PySem.W.subIn K (.ref C7) (.type "BaseException") = some true) (ty_7 : PySem.W.typeIn K (.ref C7) = some (.type "type"))
    (q_8 : PySem.W.excIn K C8 PySem.HandSPX.veTail "ValueError.__new__" = true) (kp_8 : PySem.W.keepIn K (.ref C8) = true) (sb_8 : PySem.W.subIn K (.ref C8) (.type "BaseException") = some true) (ty_8 : PySem.W.typeIn K (.ref C8) = some (.type "type"))
    (q_9 : PySem.W.excIn K C9 PySem.HandSPX.veTail "ValueError.__new__" = true) (kp_9 : PySem.W.keepIn K (.ref C9) = true) (sb_9 : PySem.W.subIn K (.ref C9) (.type "BaseException") = some true) (ty_9 : PySem.W.typeIn K (.ref C9) = some (.type "type"))
    (e_9 : ekB K CE (cOf [C0, C1, C2, C3, C4, C5, C6, C7, C8, C9]) 9 = true)
    (hne_Pa_Pt : Pa ≠ Pt)
    (t_Pa : h.get? Pa = some { cls := .none, data := .fields #[] }) (n_Pa : K.lookup Pa = none) (hd_Pa : PySem.W.codeHdIn K csA Pa = true)
    (tP : h.get? Pt = some { cls := .none, data := .fields #[] }) (nP : K.lookup Pt = none) (hd : PySem.W.codeHdIn K c Pt = true) :
    LamX.LawAtS l w K CX0 10 63 "_law_script" mg fa h := by
  have e := hfa.symm.trans (PySem.W.mg_of X0 G a_law)
  cases e
  have X : Txt mg := ⟨PySem.W.mg_none_of X0 G z_len, PySem.W.mg_none_of X0 G z_any, PySem.W.mg_none_of X0 G z_sum, PySem.W.mg_none_of X0 G z_isinstance, PySem.W.mg_none_of X0 G z_tuple, PySem.W.mg_none_of X0 G z_list, PySem.W.mg_none_of X0 G z_int, PySem.W.mg_none_of X0 G z_bool, PySem.W.mg_none_of X0 G z_str, PySem.W.mg_none_of X0 G z_range, PySem.W.mg_none_of X0 G z_enumerate, PySem.W.mg_none_of X0 G z_zip, PySem.W.mg_none_of X0 G z_sorted, ⟨_, PySem.W.mg_of X0 G a_MOST_THINGS⟩, ⟨_, PySem.W.mg_of X0 G a_MOST_PROBES⟩, ⟨_, PySem.W.mg_of X0 G a_MOST_BAD⟩, ⟨_, PySem.W.mg_of X0 G a_MOST_SLIPS⟩, ⟨_, PySem.W.mg_of X0 G a_HUNDRED⟩⟩
  have F_is_within := fun_mk (st := s_is_within) l_is_within c_is_within k_is_within
  have m_is_within := PySem.W.mg_of X0 G a_is_within
  have F_is_lot := fun_mk (st := s_is_lot) l_is_lot c_is_lot k_is_lot
  have m_is_lot := PySem.W.mg_of X0 G a_is_lot
  have F_is_probe := fun_mk (st := s_is_probe) l_is_probe c_is_probe k_is_probe
  have m_is_probe := PySem.W.mg_of X0 G a_is_probe
  have F_is_answer := fun_mk (st := s_is_answer) l_is_answer c_is_answer k_is_answer
  have m_is_answer := PySem.W.mg_of X0 G a_is_answer
  have F_is_chance := fun_mk (st := s_is_chance) l_is_chance c_is_chance k_is_chance
  have m_is_chance := PySem.W.mg_of X0 G a_is_chance
  have F_check_plan := fun_mk (st := s_check_plan) l_check_plan c_check_plan k_check_plan
  have m_check_plan := PySem.W.mg_of X0 G a_check_plan
  have F_first_wrong := fun_mk (st := s_first_wrong) l_first_wrong c_first_wrong k_first_wrong
  have m_first_wrong := PySem.W.mg_of X0 G a_first_wrong
  have F_check_answers := fun_mk (st := s_check_answers) l_check_answers c_check_answers k_check_answers
  have m_check_answers := PySem.W.mg_of X0 G a_check_answers
  have F_check_chances := fun_mk (st := s_check_chances) l_check_chances c_check_chances k_check_chances
  have m_check_chances := PySem.W.mg_of X0 G a_check_chances
  have F_check_count := fun_mk (st := s_check_count) l_check_count c_check_count k_check_count
  have m_check_count := PySem.W.mg_of X0 G a_check_count
  have F_check_most := fun_mk (st := s_check_most) l_check_most c_check_most k_check_most
  have m_check_most := PySem.W.mg_of X0 G a_check_most
  have F_lots_up_to := fun_mk (st := s_lots_up_to) l_lots_up_to c_lots_up_to k_lots_up_to
  have m_lots_up_to := PySem.W.mg_of X0 G a_lots_up_to
  have F_answer_of := fun_mk (st := s_answer_of) l_answer_of c_answer_of k_answer_of
  have m_answer_of := PySem.W.mg_of X0 G a_answer_of
  have F_answers_of := fun_mk (st := s_answers_of) l_answers_of c_answers_of k_answers_of
  have m_answers_of := PySem.W.mg_of X0 G a_answers_of
  have C_shares : FunC K "shares" "shares" s_shares _ _ csA := ⟨⟨_, _, _, _, _, _, _, _, rfl, l_shares, c_shares⟩, k_shares⟩
  have F_shares := C_shares.fun_
  have m_shares := PySem.W.mg_of X0 G a_shares
  have F_each := fun_mk (st := s_each) l_each c_each k_each
  have m_each := PySem.W.mg_of X0 G a_each
  have F_checked_weights := fun_mk (st := s_checked_weights) l_checked_weights c_checked_weights k_checked_weights
  have m_checked_weights := PySem.W.mg_of X0 G a_checked_weights
  have F_weights := fun_mk (st := s_weights) l_weights c_weights k_weights
  have m_weights := PySem.W.mg_of X0 G a_weights
  have F_lot_weight := fun_mk (st := s_lot_weight) l_lot_weight c_lot_weight k_lot_weight
  have m_lot_weight := PySem.W.mg_of X0 G a_lot_weight
  have F_told_weight := fun_mk (st := s_told_weight) l_told_weight c_told_weight k_told_weight
  have m_told_weight := PySem.W.mg_of X0 G a_told_weight
  have F_sum_of := fun_mk (st := s_sum_of) l_sum_of c_sum_of k_sum_of
  have m_sum_of := PySem.W.mg_of X0 G a_sum_of
  have F_fraction := fun_mk (st := s_fraction) l_fraction c_fraction k_fraction
  have m_fraction := PySem.W.mg_of X0 G a_fraction
  have F__law_row := fun_mk (st := s__law_row) l__law_row c__law_row k__law_row
  have m__law_row := PySem.W.mg_of X0 G a__law_row
  have F__law_taken := fun_mk (st := s__law_taken) l__law_taken c__law_taken k__law_taken
  have m__law_taken := PySem.W.mg_of X0 G a__law_taken
  have F__law_lot := fun_mk (st := s__law_lot) l__law_lot c__law_lot k__law_lot
  have m__law_lot := PySem.W.mg_of X0 G a__law_lot
  have F__law_plan := fun_mk (st := s__law_plan) l__law_plan c__law_plan k__law_plan
  have m__law_plan := PySem.W.mg_of X0 G a__law_plan
  have F__law_answers := fun_mk (st := s__law_answers) l__law_answers c__law_answers k__law_answers
  have m__law_answers := PySem.W.mg_of X0 G a__law_answers
  have F__law_said := fun_mk (st := s__law_said) l__law_said c__law_said k__law_said
  have m__law_said := PySem.W.mg_of X0 G a__law_said
  have F__law_chances := fun_mk (st := s__law_chances) l__law_chances c__law_chances k__law_chances
  have m__law_chances := PySem.W.mg_of X0 G a__law_chances
  have F__law_word := fun_mk (st := s__law_word) l__law_word c__law_word k__law_word
  have m__law_word := PySem.W.mg_of X0 G a__law_word
  have F_check_slips := fun_mk (st := s_check_slips) l_check_slips c_check_slips k_check_slips
  have m_check_slips := PySem.W.mg_of X0 G a_check_slips
  have F_check_lot := fun_mk (st := s_check_lot) l_check_lot c_check_lot k_check_lot
  have m_check_lot := PySem.W.mg_of X0 G a_check_lot
  have F_slips_in := fun_mk (st := s_slips_in) l_slips_in c_slips_in k_slips_in
  have m_slips_in := PySem.W.mg_of X0 G a_slips_in
  have F_how_many_have := fun_mk (st := s_how_many_have) l_how_many_have c_how_many_have k_how_many_have
  have m_how_many_have := PySem.W.mg_of X0 G a_how_many_have
  have F_answers := fun_mk (st := s_answers) l_answers c_answers k_answers
  have m_answers := PySem.W.mg_of X0 G a_answers
  have F_kinds := fun_mk (st := s_kinds) l_kinds c_kinds k_kinds
  have m_kinds := PySem.W.mg_of X0 G a_kinds
  have F_how_many_unlike := fun_mk (st := s_how_many_unlike) l_how_many_unlike c_how_many_unlike k_how_many_unlike
  have m_how_many_unlike := PySem.W.mg_of X0 G a_how_many_unlike
  have F_idle := fun_mk (st := s_idle) l_idle c_idle k_idle
  have m_idle := PySem.W.mg_of X0 G a_idle
  have F_without := fun_mk (st := s_without) l_without c_without k_without
  have m_without := PySem.W.mg_of X0 G a_without
  have F_beside := fun_mk (st := s_beside) l_beside c_beside k_beside
  have m_beside := PySem.W.mg_of X0 G a_beside
  have F_moved := fun_mk (st := s_moved) l_moved c_moved k_moved
  have m_moved := PySem.W.mg_of X0 G a_moved
  have F__law_moved := fun_mk (st := s__law_moved) l__law_moved c__law_moved k__law_moved
  have m__law_moved := PySem.W.mg_of X0 G a__law_moved
  have F_could := fun_mk (st := s_could) l_could c_could k_could
  have m_could := PySem.W.mg_of X0 G a_could
  have F_sure := fun_mk (st := s_sure) l_sure c_sure k_sure
  have m_sure := PySem.W.mg_of X0 G a_sure
  have Te : ETab mg CE (cOf [C0, C1, C2, C3, C4, C5, C6, C7, C8, C9]) := ⟨PySem.W.mg_of X0 G a_ProbeError, PySem.W.mg_none_of X0 G z_ValueError, PySem.W.mg_of X0 G a_BadPlan, PySem.W.mg_of X0 G a_BadAnswers, PySem.W.mg_of X0 G a_BadChances, PySem.W.mg_of X0 G a_BadDeed, PySem.W.mg_of X0 G a_Halted, PySem.W.mg_of X0 G a_BadTree, PySem.W.mg_of X0 G a_BadText, PySem.W.mg_of X0 G a_BadLot, PySem.W.mg_of X0 G a_BadCount, PySem.W.mg_of X0 G a_NoLot⟩
  have L7 : ClsN K mg "BadLot" (cOf [C0, C1, C2, C3, C4, C5, C6, C7, C8, C9] 7) := ⟨PySem.W.mg_of X0 G a_BadLot, q_7, kp_7, sb_7, ty_7⟩
  have L8 : ClsN K mg "BadCount" (cOf [C0, C1, C2, C3, C4, C5, C6, C7, C8, C9] 8) := ⟨PySem.W.mg_of X0 G a_BadCount, q_8, kp_8, sb_8, ty_8⟩
  have L9 : ClsN K mg "NoLot" (cOf [C0, C1, C2, C3, C4, C5, C6, C7, C8, C9] 9) := ⟨PySem.W.mg_of X0 G a_NoLot, q_9, kp_9, sb_9, ty_9⟩
  obtain ⟨_, _, fileA0, fileB0⟩ := v_cd0
  have OI0 : PySem.XIn.OwnI l.prog K mg C0 fI0 _ "number" "number" "no plan, by " := {
    cls := ⟨_, _, _, _, _, _, _, _, _, _, _, _, _, _, _, l_B0, r_B0, al_B0⟩
    ini := ini_B0
    sa := sa_B0
    noN := no_B0
    fn := ⟨_, _, _, _, _, _, _, _, _, _, _, _, _, _, _, _, _, _, _, _, _, _, _, _, _, _, _, rfl, n_fI0, l_fI0, c_fI0, ⟨_, _, _, _, _, _, l_cd0, fileA0, fileB0⟩, ⟨_, _, _, l_cc0⟩⟩
    top := t_sup
    sup := PySem.W.mg_none_of X0 G z_super
    opq := o_sup
    self := by decide
    nmC := by decide
    nmS := by decide
    nmD := by decide
    tsz := by decide +kernel }
  have L0 : ClsI K l.prog mg "BadPlan" (cOf [C0, C1, C2, C3, C4, C5, C6, C7, C8, C9] 0) fI0 _ "number" "number" "no plan, by " := ⟨PySem.W.mg_of X0 G a_BadPlan, ⟨⟨_, _, _, _, _, _, _, _, _, _, _, _, _, _, _, l_B0, r_B0⟩, sa_B0, sb_B0, ty_B0, kp_B0⟩, fi_B0, tf_B0, fun s us _ hl => (match us, hl with | [_, _], _ => BindsTo.of_eq rfl), OI0⟩
  obtain ⟨_, _, fileA1, fileB1⟩ := v_cd1
  have OI1 : PySem.XIn.OwnI l.prog K mg C1 fI1 _ "number" "number" "no answers, by " := {
    cls := ⟨_, _, _, _, _, _, _, _, _, _, _, _, _, _, _, l_B1, r_B1, al_B1⟩
    ini := ini_B1
    sa := sa_B1
    noN := no_B1
    fn := ⟨_, _, _, _, _, _, _, _, _, _, _, _, _, _, _, _, _, _, _, _, _, _, _, _, _, _, _, rfl, n_fI1, l_fI1, c_fI1, ⟨_, _, _, _, _, _, l_cd1, fileA1, fileB1⟩, ⟨_, _, _, l_cc1⟩⟩
    top := t_sup
    sup := PySem.W.mg_none_of X0 G z_super
    opq := o_sup
    self := by decide
    nmC := by decide
    nmS := by decide
    nmD := by decide
    tsz := by decide +kernel }
  have L1 : ClsI K l.prog mg "BadAnswers" (cOf [C0, C1, C2, C3, C4, C5, C6, C7, C8, C9] 1) fI1 _ "number" "number" "no answers, by " := ⟨PySem.W.mg_of X0 G a_BadAnswers, ⟨⟨_, _, _, _, _, _, _, _, _, _, _, _, _, _, _, l_B1, r_B1⟩, sa_B1, sb_B1, ty_B1, kp_B1⟩, fi_B1, tf_B1, fun s us _ hl => (match us, hl with | [_, _], _ => BindsTo.of_eq rfl), OI1⟩
  obtain ⟨_, _, fileA2, fileB2⟩ := v_cd2
  have OI2 : PySem.XIn.OwnI l.prog K mg C2 fI2 _ "number" "number" "no chances, by " := {
    cls := ⟨_, _, _, _, _, _, _, _, _, _, _, _, _, _, _, l_B2, r_B2, al_B2⟩
    ini := ini_B2
    sa := sa_B2
    noN := no_B2
    fn := ⟨_, _, _, _, _, _, _, _, _, _, _, _, _, _, _, _, _, _, _, _, _, _, _, _, _, _, _, rfl, n_fI2, l_fI2, c_fI2, ⟨_, _, _, _, _, _, l_cd2, fileA2, fileB2⟩, ⟨_, _, _, l_cc2⟩⟩
    top := t_sup
    sup := PySem.W.mg_none_of X0 G z_super
    opq := o_sup
    self := by decide
    nmC := by decide
    nmS := by decide
    nmD := by decide
    tsz := by decide +kernel }
  have L2 : ClsI K l.prog mg "BadChances" (cOf [C0, C1, C2, C3, C4, C5, C6, C7, C8, C9] 2) fI2 _ "number" "number" "no chances, by " := ⟨PySem.W.mg_of X0 G a_BadChances, ⟨⟨_, _, _, _, _, _, _, _, _, _, _, _, _, _, _, l_B2, r_B2⟩, sa_B2, sb_B2, ty_B2, kp_B2⟩, fi_B2, tf_B2, fun s us _ hl => (match us, hl with | [_, _], _ => BindsTo.of_eq rfl), OI2⟩
  have Ek9 := ekB_ok e_9
  have hu_Pa : ∀ p ∈ Tof Pa Pt, p.1 = Pa → p.2 = lamS := fun p hp e => by
    simp only [Tof, List.mem_cons, List.not_mem_nil, or_false] at hp
    rcases hp with rfl | rfl <;> first | exact absurd e hne_Pa_Pt | exact absurd e.symm hne_Pa_Pt | rfl
  have hm_Pa : (Pa, lamS) ∈ Tof Pa Pt := List.mem_cons_self ..
  have hu_Pt : ∀ p ∈ Tof Pa Pt, p.1 = Pt → p.2 = lamLaw := fun p hp e => by
    simp only [Tof, List.mem_cons, List.not_mem_nil, or_false] at hp
    rcases hp with rfl | rfl <;> first | exact absurd e hne_Pa_Pt | exact absurd e.symm hne_Pa_Pt | rfl
  have hm_Pt : (Pt, lamLaw) ∈ Tof Pa Pt := List.mem_cons_of_mem _ (List.mem_cons_self ..)
  have C_law : FunC K "law" "law" s_law _ _ c := ⟨⟨_, _, _, _, _, _, _, _, rfl, l_law, c_law⟩, k_law⟩
  have F_law := C_law.fun_
  have m_law := PySem.W.mg_of X0 G a_law
  have b_is_within := F_is_within.binds (ps := ["value", "low", "high"]) fun _ _ _ _ _ _ us hl => match us, hl with | [_, _, _], _ => rfl
  have b_is_lot := F_is_lot.binds (ps := ["value", "things"]) fun _ _ _ _ _ _ us hl => match us, hl with | [_, _], _ => rfl
  have b_is_probe := F_is_probe.binds (ps := ["value", "things"]) fun _ _ _ _ _ _ us hl => match us, hl with | [_, _], _ => rfl
  have b_is_answer := F_is_answer.binds (ps := ["value"]) fun _ _ _ _ _ _ us hl => match us, hl with | [_], _ => rfl
  have b_is_chance := F_is_chance.binds (ps := ["value"]) fun _ _ _ _ _ _ us hl => match us, hl with | [_], _ => rfl
  have b_check_plan := F_check_plan.binds (ps := ["plan"]) fun _ _ _ _ _ _ us hl => match us, hl with | [_], _ => rfl
  have b_first_wrong := F_first_wrong.binds (ps := ["values", "many", "is_right"]) fun _ _ _ _ _ _ us hl => match us, hl with | [_, _, _], _ => rfl
  have b_check_answers := F_check_answers.binds (ps := ["told", "many"]) fun _ _ _ _ _ _ us hl => match us, hl with | [_, _], _ => rfl
  have b_check_chances := F_check_chances.binds (ps := ["chances", "things"]) fun _ _ _ _ _ _ us hl => match us, hl with | [_, _], _ => rfl
  have b_check_count := F_check_count.binds (ps := ["value", "low", "high"]) fun _ _ _ _ _ _ us hl => match us, hl with | [_, _, _], _ => rfl
  have b_check_most := F_check_most.binds (ps := ["most"]) fun _ _ _ _ _ _ us hl => match us, hl with | [_], _ => rfl
  have b_lots_up_to := F_lots_up_to.binds (ps := ["things", "most"]) fun _ _ _ _ _ _ us hl => match us, hl with | [_, _], _ => rfl
  have b_answer_of := F_answer_of.binds (ps := ["probe", "lot"]) fun _ _ _ _ _ _ us hl => match us, hl with | [_, _], _ => rfl
  have b_answers_of := F_answers_of.binds (ps := ["probes", "lot"]) fun _ _ _ _ _ _ us hl => match us, hl with | [_, _], _ => rfl
  have b_shares := F_shares.binds (ps := ["plan", "told", "chances", "wrong", "most"]) fun _ _ _ _ _ _ us hl => match us, hl with | [_, _, _, _, _], _ => rfl
  have b_each := F_each.binds (ps := ["plan", "told", "chances", "wrong", "most"]) fun _ _ _ _ _ _ us hl => match us, hl with | [_, _, _, _, _], _ => rfl
  have b_checked_weights := F_checked_weights.binds (ps := ["plan", "told", "chances", "wrong", "most"]) fun _ _ _ _ _ _ us hl => match us, hl with | [_, _, _, _, _], _ => rfl
  have b_weights := F_weights.binds (ps := ["plan", "told", "chances", "wrong", "most"]) fun _ _ _ _ _ _ us hl => match us, hl with | [_, _, _, _, _], _ => rfl
  have b_lot_weight := F_lot_weight.binds (ps := ["lot", "chances"]) fun _ _ _ _ _ _ us hl => match us, hl with | [_, _], _ => rfl
  have b_told_weight := F_told_weight.binds (ps := ["told", "right", "wrong"]) fun _ _ _ _ _ _ us hl => match us, hl with | [_, _, _], _ => rfl
  have b_sum_of := F_sum_of.binds (ps := ["rows"]) fun _ _ _ _ _ _ us hl => match us, hl with | [_], _ => rfl
  have b_fraction := F_fraction.binds (ps := ["top", "under"]) fun _ _ _ _ _ _ us hl => match us, hl with | [_, _], _ => rfl
  have b__law_row := F__law_row.binds (ps := ["_law_script"]) fun _ _ _ _ _ _ us hl => match us, hl with | [_], _ => rfl
  have b__law_taken := F__law_taken.binds (ps := ["_law_row_here", "_law_many"]) fun _ _ _ _ _ _ us hl => match us, hl with | [_, _], _ => rfl
  have b__law_lot := F__law_lot.binds (ps := ["_law_row_here", "_law_things"]) fun _ _ _ _ _ _ us hl => match us, hl with | [_, _], _ => rfl
  have b__law_plan := F__law_plan.binds (ps := ["_law_row_here", "_law_things", "_law_probes"]) fun _ _ _ _ _ _ us hl => match us, hl with | [_, _, _], _ => rfl
  have b__law_answers := F__law_answers.binds (ps := ["_law_plan_here", "_law_lot_here"]) fun _ _ _ _ _ _ us hl => match us, hl with | [_, _], _ => rfl
  have b__law_said := F__law_said.binds (ps := ["_law_row_here", "_law_plan_here"]) fun _ _ _ _ _ _ us hl => match us, hl with | [_, _], _ => rfl
  have b__law_chances := F__law_chances.binds (ps := ["_law_row_here", "_law_things"]) fun _ _ _ _ _ _ us hl => match us, hl with | [_, _], _ => rfl
  have b__law_word := F__law_word.binds (ps := ["_law_work"]) fun _ _ _ _ _ _ us hl => match us, hl with | [_], _ => rfl
  have b_check_slips := F_check_slips.binds (ps := ["slips"]) fun _ _ _ _ _ _ us hl => match us, hl with | [_], _ => rfl
  have b_check_lot := F_check_lot.binds (ps := ["lot", "things"]) fun _ _ _ _ _ _ us hl => match us, hl with | [_, _], _ => rfl
  have b_slips_in := F_slips_in.binds (ps := ["told", "right"]) fun _ _ _ _ _ _ us hl => match us, hl with | [_, _], _ => rfl
  have b_how_many_have := F_how_many_have.binds (ps := ["thing", "lots"]) fun _ _ _ _ _ _ us hl => match us, hl with | [_, _], _ => rfl
  have b_answers := F_answers.binds (ps := ["plan", "lot"]) fun _ _ _ _ _ _ us hl => match us, hl with | [_, _], _ => rfl
  have b_kinds := F_kinds.binds (ps := ["plan", "most"]) fun _ _ _ _ _ _ us hl => match us, hl with | [_, _], _ => rfl
  have b_how_many_unlike := F_how_many_unlike.binds (ps := ["probes", "lots"]) fun _ _ _ _ _ _ us hl => match us, hl with | [_, _], _ => rfl
  have b_idle := F_idle.binds (ps := ["plan", "most"]) fun _ _ _ _ _ _ us hl => match us, hl with | [_, _], _ => rfl
  have b_without := F_without.binds (ps := ["probes", "number"]) fun _ _ _ _ _ _ us hl => match us, hl with | [_, _], _ => rfl
  have b_beside := F_beside.binds (ps := ["one", "other"]) fun _ _ _ _ _ _ us hl => match us, hl with | [_, _], _ => rfl
  have b_moved := F_moved.binds (ps := ["probes", "by"]) fun _ _ _ _ _ _ us hl => match us, hl with | [_, _], _ => rfl
  have b__law_moved := F__law_moved.binds (ps := ["_law_lot_here", "_law_places"]) fun _ _ _ _ _ _ us hl => match us, hl with | [_, _], _ => rfl
  have Fd_could : FunD K "could" "could" (defArgs s_could) (defBody s_could) (defScope s_could) [] [("slips", V.int 0)] f_could _ := ⟨⟨_, _, _, _, _, _, _, _, _, _, rfl, l_could, c_could, .inl ⟨rfl, rfl⟩, .inr ⟨_, rfl, fun q hq => by rw [List.mem_singleton.mp hq]; exact ⟨_, n_could, ⟨_, rfl⟩⟩⟩⟩, k_could⟩
  obtain ⟨ds_could, hd_could, b_could⟩ := FunD.binds0 (ps := ["plan", "told", "most", "slips"]) Fd_could 3 (by simp) rfl fun _ _ _ _ _ _ us ks hl hk => match us, ks, hl, hk with | [_, _, _], [_], _, _ => ⟨_, _, _, _, _, _, rfl, rfl, rfl⟩
  obtain ⟨mv_could, bk_could⟩ := FunD.kbinds0 (ps := ["plan", "told", "most", "slips"]) Fd_could 3 ["slips"] [] (fun us _ ws => us ++ ws) (by simp) (fun q hq => by cases hq) (fun a _ b => vals_app a b) fun _ _ _ _ _ _ us mv ws hl hm hw => match us, mv, ws, hl, hm, hw with | [_, _, _], [], [_], _, _, _ => rfl
  have Fd_sure : FunD K "sure" "sure" (defArgs s_sure) (defBody s_sure) (defScope s_sure) [] [("slips", V.int 0)] f_sure _ := ⟨⟨_, _, _, _, _, _, _, _, _, _, rfl, l_sure, c_sure, .inl ⟨rfl, rfl⟩, .inr ⟨_, rfl, fun q hq => by rw [List.mem_singleton.mp hq]; exact ⟨_, n_sure, ⟨_, rfl⟩⟩⟩⟩, k_sure⟩
  obtain ⟨ds_sure, hd_sure, b_sure⟩ := FunD.binds0 (ps := ["plan", "told", "most", "slips"]) Fd_sure 3 (by simp) rfl fun _ _ _ _ _ _ us ks hl hk => match us, ks, hl, hk with | [_, _, _], [_], _, _ => ⟨_, _, _, _, _, _, rfl, rfl, rfl⟩
  obtain ⟨mv_sure, bk_sure⟩ := FunD.kbinds0 (ps := ["plan", "told", "most", "slips"]) Fd_sure 3 ["slips"] [] (fun us _ ws => us ++ ws) (by simp) (fun q hq => by cases hq) (fun a _ b => vals_app a b) fun _ _ _ _ _ _ us mv ws hl hm hw => match us, mv, ws, hl, hm, hw with | [_, _, _], [], [_], _, _, _ => rfl
  have allT : ∀ {P : Addr × Addr → Prop}, P (csA, Pa) → P (c, Pt) → ∀ p ∈ [(csA, Pa), (c, Pt)], P p := fun {P} x0 x1 p hp => by
    simp only [List.mem_cons, List.not_mem_nil, or_false] at hp
    rcases hp with rfl | rfl <;> assumption
  refine ⟨PySem.W.fnOf "law" "law" (defArgs s_law) (defBody s_law) (defScope s_law) .none kV_law dc_law pm_law an_law (.ref c) ct_law, [(csA, Pa), (c, Pt)], sp_law K (Tof Pa Pt), allT t_Pa tP, allT n_Pa nP, allT (PySem.W.codeHd_of_K X0 hd_Pa) (PySem.W.codeHd_of_K X0 hd), fun s u => .of_eq rfl, fun H a ns hl _ ht hS => ⟨a, ns, rfl, hS, fun p hp => ?_, fun _ => rfl⟩, fun base _ _ hTB => ?_⟩
  · simp only [Tof, List.mem_cons, List.not_mem_nil, or_false] at hp
    rcases hp with rfl | rfl
    · exact LamX.TabS.nil (ht (csA, Pa) (by simp))
    · exact LamX.TabS.nil (ht (c, Pt) (by simp))
  have TB_Pa : LamX.TabB base mg csA Pa := hTB (csA, Pa) (by simp)
  have TB_Pt : LamX.TabB base mg c Pt := hTB (c, Pt) (by simp)
  have G_is_within := ok_is_within (mg := mg) (T := Tof Pa Pt) (P := l.prog) (w := w) (base := base) F_is_within X
  have G_is_lot := ok_is_lot (mg := mg) (T := Tof Pa Pt) (P := l.prog) (w := w) (base := base) F_is_lot X G_is_within k_is_within b_is_within m_is_within
  have G_is_probe := ok_is_probe (mg := mg) (T := Tof Pa Pt) (P := l.prog) (w := w) (base := base) F_is_probe X G_is_lot k_is_lot b_is_lot m_is_lot
  have G_is_answer := ok_is_answer (mg := mg) (T := Tof Pa Pt) (P := l.prog) (w := w) (base := base) F_is_answer G_is_within k_is_within b_is_within m_is_within
  have G_is_chance := ok_is_chance (mg := mg) (T := Tof Pa Pt) (P := l.prog) (w := w) (base := base) F_is_chance X G_is_within k_is_within b_is_within m_is_within
  have G_check_plan := ok_check_planX (mg := mg) (T := Tof Pa Pt) (P := l.prog) (w := w) (base := base) F_check_plan X G_is_within k_is_within b_is_within m_is_within G_is_probe k_is_probe b_is_probe m_is_probe L0
  have G_fwA := ok_first_wrongX (mg := mg) (T := Tof Pa Pt) (P := l.prog) (w := w) (base := base) F_first_wrong X G_is_answer k_is_answer b_is_answer
  have G_fwC := ok_first_wrongX (mg := mg) (T := Tof Pa Pt) (P := l.prog) (w := w) (base := base) F_first_wrong X G_is_chance k_is_chance b_is_chance
  have G_check_answers := ok_check_answersX (mg := mg) (T := Tof Pa Pt) (P := l.prog) (w := w) (base := base) F_check_answers G_fwA k_first_wrong b_first_wrong m_first_wrong m_is_answer L1
  have G_check_chances := ok_check_chancesX (mg := mg) (T := Tof Pa Pt) (P := l.prog) (w := w) (base := base) F_check_chances G_fwC k_first_wrong b_first_wrong m_first_wrong m_is_chance L2
  have G_check_count := ok_check_count (mg := mg) (T := Tof Pa Pt) (P := l.prog) (w := w) (base := base) F_check_count G_is_within k_is_within b_is_within m_is_within L8
  have G_check_most := ok_check_mostX (mg := mg) (T := Tof Pa Pt) (P := l.prog) (w := w) (base := base) F_check_most X G_check_count k_check_count b_check_count m_check_count
  have G_lots_up_to := ok_lots_up_to (mg := mg) (T := Tof Pa Pt) (P := l.prog) (w := w) (base := base) F_lots_up_to X (PySem.W.mg_of X0 G a_comb)
  have G_answer_of := ok_answer_of (mg := mg) (T := Tof Pa Pt) (P := l.prog) (w := w) (base := base) F_answer_of X
  have G_answers_of := ok_answers_of (mg := mg) (T := Tof Pa Pt) (P := l.prog) (w := w) (base := base) F_answers_of X G_answer_of k_answer_of b_answer_of m_answer_of
  have G_lot_weight := ok_lot_weight (mg := mg) (T := Tof Pa Pt) (P := l.prog) (w := w) (base := base) F_lot_weight X
  have G_told_weight := ok_told_weight (mg := mg) (T := Tof Pa Pt) (P := l.prog) (w := w) (base := base) F_told_weight X
  have G_sum_of := ok_sum_of (mg := mg) (T := Tof Pa Pt) (P := l.prog) (w := w) (base := base) F_sum_of X
  have G_fraction := ok_fraction (mg := mg) (T := Tof Pa Pt) (P := l.prog) (w := w) (base := base) F_fraction (PySem.W.mg_of X0 G a_gcd)
  have G_weights := ok_weights (mg := mg) (T := Tof Pa Pt) (P := l.prog) (w := w) (base := base) F_weights G_lots_up_to k_lots_up_to b_lots_up_to m_lots_up_to G_lot_weight k_lot_weight b_lot_weight m_lot_weight G_told_weight k_told_weight b_told_weight m_told_weight G_answers_of k_answers_of b_answers_of m_answers_of L9
  have G_checked_weights := ok_checked_weights (mg := mg) (T := Tof Pa Pt) (P := l.prog) (w := w) (base := base) (c := cwOf (cOf [C0, C1, C2, C3, C4, C5, C6, C7, C8, C9])) F_checked_weights X G_check_plan k_check_plan b_check_plan m_check_plan G_check_answers k_check_answers b_check_answers m_check_answers G_check_chances k_check_chances b_check_chances m_check_chances G_check_count k_check_count b_check_count m_check_count G_check_most k_check_most b_check_most m_check_most G_weights k_weights b_weights m_weights
  have G_shares := ok_shares (mg := mg) (T := Tof Pa Pt) (P := l.prog) (w := w) (base := base) (c := cwOf (cOf [C0, C1, C2, C3, C4, C5, C6, C7, C8, C9])) C_shares X TB_Pa hm_Pa hu_Pa G_checked_weights k_checked_weights b_checked_weights m_checked_weights G_sum_of k_sum_of b_sum_of m_sum_of G_fraction k_fraction b_fraction m_fraction
  have G_each := ok_eachL (mg := mg) (T := Tof Pa Pt) (P := l.prog) (w := w) (base := base) (c := cwOf (cOf [C0, C1, C2, C3, C4, C5, C6, C7, C8, C9])) F_each X G_checked_weights k_checked_weights b_checked_weights m_checked_weights G_sum_of k_sum_of b_sum_of m_sum_of G_fraction k_fraction b_fraction m_fraction
  have G__law_row := ok_row (mg := mg) (P := l.prog) (w := w) (base := base) F__law_row
  have G__law_taken := ok_taken (mg := mg) (T := Tof Pa Pt) (P := l.prog) (w := w) (base := base) F__law_taken X
  have G__law_lot := ok_lot (mg := mg) (T := Tof Pa Pt) (P := l.prog) (w := w) (base := base) F__law_lot X G__law_taken k__law_taken b__law_taken m__law_taken
  have G__law_plan := ok_plan (mg := mg) (T := Tof Pa Pt) (P := l.prog) (w := w) (base := base) F__law_plan X G__law_taken k__law_taken b__law_taken m__law_taken G__law_lot k__law_lot b__law_lot m__law_lot
  have G__law_answers := ok_lans (mg := mg) (T := Tof Pa Pt) (P := l.prog) (w := w) (base := base) F__law_answers X
  have G__law_said := ok_said (mg := mg) (T := Tof Pa Pt) (P := l.prog) (w := w) (base := base) F__law_said G__law_taken k__law_taken b__law_taken m__law_taken G__law_lot k__law_lot b__law_lot m__law_lot G__law_answers k__law_answers b__law_answers m__law_answers
  have G__law_chances := ok_lcha (mg := mg) (T := Tof Pa Pt) (P := l.prog) (w := w) (base := base) F__law_chances X G__law_taken k__law_taken b__law_taken m__law_taken
  have G_check_slips := ok_check_slipsX (mg := mg) (T := Tof Pa Pt) (P := l.prog) (w := w) (base := base) F_check_slips X G_check_count k_check_count b_check_count m_check_count
  have G_check_plan0 := ok_check_plan (mg := mg) (T := Tof Pa Pt) (P := l.prog) (w := w) (base := base) F_check_plan X G_is_within k_is_within b_is_within m_is_within G_is_probe k_is_probe b_is_probe m_is_probe
  have G_check_answers0 := gd_answers G_check_answers
  have G_check_most0 := gd_most G_check_most
  have G_check_slips0 := gd_slips G_check_slips
  have G_slips_in := ok_slips_in (mg := mg) (T := Tof Pa Pt) (P := l.prog) (w := w) (base := base) F_slips_in X
  have G_how_many_have := ok_how_many_have (mg := mg) (T := Tof Pa Pt) (P := l.prog) (w := w) (base := base) F_how_many_have X
  have G_could := ok_could (mg := mg) (T := Tof Pa Pt) (P := l.prog) (w := w) (base := base) F_could X G_check_plan0 k_check_plan b_check_plan m_check_plan G_check_answers0 k_check_answers b_check_answers m_check_answers G_check_most0 k_check_most b_check_most m_check_most G_check_slips0 k_check_slips b_check_slips m_check_slips G_lots_up_to k_lots_up_to b_lots_up_to m_lots_up_to G_slips_in k_slips_in b_slips_in m_slips_in G_answers_of k_answers_of b_answers_of m_answers_of
  have G_sure := ok_sure (mg := mg) (T := Tof Pa Pt) (P := l.prog) (w := w) (base := base) F_sure X G_could k_could bk_could (fun _ _ => rfl) m_could G_how_many_have k_how_many_have b_how_many_have m_how_many_have
  have G_how_many_unlike := ok_unlike (mg := mg) (T := Tof Pa Pt) (P := l.prog) (w := w) (base := base) F_how_many_unlike X G_answers_of k_answers_of b_answers_of m_answers_of
  have G_without := ok_without (mg := mg) (T := Tof Pa Pt) (P := l.prog) (w := w) (base := base) F_without
  have G_kinds := ok_kinds (mg := mg) (T := Tof Pa Pt) (P := l.prog) (w := w) (base := base) F_kinds G_check_plan0 k_check_plan b_check_plan m_check_plan G_check_most0 k_check_most b_check_most m_check_most G_lots_up_to k_lots_up_to b_lots_up_to m_lots_up_to G_how_many_unlike k_how_many_unlike b_how_many_unlike m_how_many_unlike
  have G_idle := ok_idle (mg := mg) (T := Tof Pa Pt) (P := l.prog) (w := w) (base := base) F_idle X G_check_plan0 k_check_plan b_check_plan m_check_plan G_check_most0 k_check_most b_check_most m_check_most G_lots_up_to k_lots_up_to b_lots_up_to m_lots_up_to G_how_many_unlike k_how_many_unlike b_how_many_unlike m_how_many_unlike G_without k_without b_without m_without
  have G_check_lot := ok_check_lot (mg := mg) (T := Tof Pa Pt) (P := l.prog) (w := w) (base := base) F_check_lot G_is_lot k_is_lot b_is_lot m_is_lot L7
  have G_answers := gd_answersL (ok_answers (mg := mg) (T := Tof Pa Pt) (P := l.prog) (w := w) (base := base) F_answers G_check_plan0 k_check_plan b_check_plan m_check_plan G_check_lot k_check_lot b_check_lot m_check_lot G_answers_of k_answers_of b_answers_of m_answers_of)
  have G_moved := ok_moved (mg := mg) (T := Tof Pa Pt) (P := l.prog) (w := w) (base := base) F_moved X
  have G_beside := gd_beside (ok_beside (mg := mg) (T := Tof Pa Pt) (P := l.prog) (w := w) (base := base) F_beside X G_check_plan0 k_check_plan b_check_plan m_check_plan G_moved k_moved b_moved m_moved L0)
  have G__law_moved := ok_lmoved (mg := mg) (T := Tof Pa Pt) (P := l.prog) (w := w) (base := base) F__law_moved X
  exact ok_law (mg := mg) (T := Tof Pa Pt) (P := l.prog) (w := w) (base := base) C_law X TB_Pt hm_Pt hu_Pt Te Ek9  G__law_row k__law_row m__law_row b__law_row G__law_taken k__law_taken m__law_taken b__law_taken G__law_lot k__law_lot m__law_lot b__law_lot G__law_plan k__law_plan m__law_plan b__law_plan G__law_said k__law_said m__law_said b__law_said G__law_chances k__law_chances m__law_chances b__law_chances G__law_moved k__law_moved m__law_moved b__law_moved G_shares k_shares m_shares b_shares G_each k_each m_each b_each G_answers k_answers m_answers b_answers G_kinds k_kinds m_kinds b_kinds G_idle k_idle m_idle b_idle G_could k_could m_could bk_could (fun _ _ => rfl) b_could hd_could G_sure k_sure m_sure bk_sure (fun _ _ => rfl) b_sure hd_sure G_beside k_beside m_beside b_beside l__law_word c__law_word k__law_word m__law_word b__law_word
end
end K17

open PySem PySem.W PyProof.Rows
set_option maxHeartbeats 0 in
theorem PySem.Challenge.cw_probelots_k17_whole_other_numbers_of_thi_holds : PySem.Challenge.rw_probelots_k17_whole_other_numbers_of_thi.Holds := by
  w_on; o_law; k_head; (case hw => w_witness2)
  k_fill
  refine LamX.walk_ofTs (l := PySem.Challenge.rw_probelots_k17_whole_other_numbers_of_thi) (n := 63) (k := 10) (x := "_law_script") (CX := fun _ => L2.CX0) rfl (by decide) rfl ⟨rfl, by decide, by decide⟩ (fun w h Y => km_in_of Y) ?F (fun _ _ _ _ _ h => h)
  case F =>
    intro w mg fa h Y KX G hmg
    refine' K17.all_mk (Pa := 403) (Pt := 527) KX G hmg ?a_is_within ?l_is_within ?c_is_within ?k_is_within ?a_is_lot ?l_is_lot ?c_is_lot ?k_is_lot ?a_is_probe ?l_is_probe ?c_is_probe ?k_is_probe ?a_is_answer ?l_is_answer ?c_is_answer ?k_is_answer ?a_is_chance ?l_is_chance ?c_is_chance ?k_is_chance ?a_check_plan ?l_check_plan ?c_check_plan ?k_check_plan ?a_first_wrong ?l_first_wrong ?c_first_wrong ?k_first_wrong ?a_check_answers ?l_check_answers ?c_check_answers ?k_check_answers ?a_check_chances ?l_check_chances ?c_check_chances ?k_check_chances ?a_check_count ?l_check_count ?c_check_count ?k_check_count ?a_check_most ?l_check_most ?c_check_most ?k_check_most ?a_lots_up_to ?l_lots_up_to ?c_lots_up_to ?k_lots_up_to ?a_answer_of ?l_answer_of ?c_answer_of ?k_answer_of ?a_answers_of ?l_answers_of ?c_answers_of ?k_answers_of ?a_shares ?l_shares ?c_shares ?k_shares ?a_each ?l_each ?c_each ?k_each ?a_checked_weights ?l_checked_weights ?c_checked_weights ?k_checked_weights ?a_weights ?l_weights ?c_weights ?k_weights ?a_lot_weight ?l_lot_weight ?c_lot_weight ?k_lot_weight ?a_told_weight ?l_told_weight ?c_told_weight ?k_told_weight ?a_sum_of ?l_sum_of ?c_sum_of ?k_sum_of ?a_fraction ?l_fraction ?c_fraction ?k_fraction ?a__law_row ?l__law_row ?c__law_row ?k__law_row ?a__law_taken ?l__law_taken ?c__law_taken ?k__law_taken ?a__law_lot ?l__law_lot ?c__law_lot ?k__law_lot ?a__law_plan ?l__law_plan ?c__law_plan ?k__law_plan ?a__law_answers ?l__law_answers ?c__law_answers ?k__law_answers ?a__law_said ?l__law_said ?c__law_said ?k__law_said ?a__law_chances ?l__law_chances ?c__law_chances ?k__law_chances ?a__law_word ?l__law_word ?c__law_word ?k__law_word ?a_check_slips ?l_check_slips ?c_check_slips ?k_check_slips ?a_check_lot ?l_check_lot ?c_check_lot ?k_check_lot ?a_slips_in ?l_slips_in ?c_slips_in ?k_slips_in ?a_how_many_have ?l_how_many_have ?c_how_many_have ?k_how_many_have ?a_answers ?l_answers ?c_answers ?k_answers ?a_kinds ?l_kinds ?c_kinds ?k_kinds ?a_how_many_unlike ?l_how_many_unlike ?c_how_many_unlike ?k_how_many_unlike ?a_idle ?l_idle ?c_idle ?k_idle ?a_without ?l_without ?c_without ?k_without ?a_beside ?l_beside ?c_beside ?k_beside ?a_moved ?l_moved ?c_moved ?k_moved ?a__law_moved ?l__law_moved ?c__law_moved ?k__law_moved ?a_could ?l_could ?c_could ?k_could ?n_could ?a_sure ?l_sure ?c_sure ?k_sure ?n_sure ?a_law ?l_law ?c_law ?k_law ?a_MOST_THINGS ?a_MOST_PROBES ?a_MOST_BAD ?a_MOST_SLIPS ?a_HUNDRED ?z_len ?z_any ?z_sum ?z_isinstance ?z_tuple ?z_list ?z_int ?z_bool ?z_str ?z_range ?z_enumerate ?z_zip ?z_sorted ?z_ValueError ?z_super ?a_BadPlan ?a_BadAnswers ?a_BadChances ?a_BadDeed ?a_Halted ?a_BadTree ?a_BadText ?a_BadLot ?a_BadCount ?a_NoLot ?a_ProbeError ?a_comb ?a_gcd ?l_B0 ?r_B0 ?al_B0 ?ini_B0 ?sa_B0 ?no_B0 ?sb_B0 ?ty_B0 ?kp_B0 ?fi_B0 ?tf_B0 ?l_fI0 ?n_fI0 ?c_fI0 ?l_cd0 ?v_cd0 ?l_cc0 ?l_B1 ?r_B1 ?al_B1 ?ini_B1 ?sa_B1 ?no_B1 ?sb_B1 ?ty_B1 ?kp_B1 ?fi_B1 ?tf_B1 ?l_fI1 ?n_fI1 ?c_fI1 ?l_cd1 ?v_cd1 ?l_cc1 ?l_B2 ?r_B2 ?al_B2 ?ini_B2 ?sa_B2 ?no_B2 ?sb_B2 ?ty_B2 ?kp_B2 ?fi_B2 ?tf_B2 ?l_fI2 ?n_fI2 ?c_fI2 ?l_cd2 ?v_cd2 ?l_cc2 ?t_sup ?o_sup ?q_7 ?kp_7 ?sb_7 ?ty_7 ?q_8 ?kp_8 ?sb_8 ?ty_8 ?q_9 ?kp_9 ?sb_9 ?ty_9 ?e_9 ?hne_Pa_Pt ?t_Pa ?n_Pa ?hd_Pa ?tP ?nP ?hd
    (case a_is_within => k_is)
    (case l_is_within => k_is)
    (case c_is_within => k_is)
    (case k_is_within => k_is)
    (case a_is_lot => k_is)
    (case l_is_lot => k_is)
    (case c_is_lot => k_is)
    (case k_is_lot => k_is)
    (case a_is_probe => k_is)
    (case l_is_probe => k_is)
    (case c_is_probe => k_is)
    (case k_is_probe => k_is)
    (case a_is_answer => k_is)
    (case l_is_answer => k_is)
    (case c_is_answer => k_is)
    (case k_is_answer => k_is)
    (case a_is_chance => k_is)
    (case l_is_chance => k_is)
    (case c_is_chance => k_is)
    (case k_is_chance => k_is)
    (case a_check_plan => k_is)
    (case l_check_plan => k_is)
    (case c_check_plan => k_is)
    (case k_check_plan => k_is)
    (case a_first_wrong => k_is)
    (case l_first_wrong => k_is)
    (case c_first_wrong => k_is)
    (case k_first_wrong => k_is)
    (case a_check_answers => k_is)
    (case l_check_answers => k_is)
    (case c_check_answers => k_is)
    (case k_check_answers => k_is)
    (case a_check_chances => k_is)
    (case l_check_chances => k_is)
    (case c_check_chances => k_is)
    (case k_check_chances => k_is)
    (case a_check_count => k_is)
    (case l_check_count => k_is)
    (case c_check_count => k_is)
    (case k_check_count => k_is)
    (case a_check_most => k_is)
    (case l_check_most => k_is)
    (case c_check_most => k_is)
    (case k_check_most => k_is)
    (case a_lots_up_to => k_is)
    (case l_lots_up_to => k_is)
    (case c_lots_up_to => k_is)
    (case k_lots_up_to => k_is)
    (case a_answer_of => k_is)
    (case l_answer_of => k_is)
    (case c_answer_of => k_is)
    (case k_answer_of => k_is)
    (case a_answers_of => k_is)
    (case l_answers_of => k_is)
    (case c_answers_of => k_is)
    (case k_answers_of => k_is)
    (case a_shares => k_is)
    (case l_shares => k_is)
    (case c_shares => k_is)
    (case k_shares => k_is)
    (case a_each => k_is)
    (case l_each => k_is)
    (case c_each => k_is)
    (case k_each => k_is)
    (case a_checked_weights => k_is)
    (case l_checked_weights => k_is)
    (case c_checked_weights => k_is)
    (case k_checked_weights => k_is)
    (case a_weights => k_is)
    (case l_weights => k_is)
    (case c_weights => k_is)
    (case k_weights => k_is)
    (case a_lot_weight => k_is)
    (case l_lot_weight => k_is)
    (case c_lot_weight => k_is)
    (case k_lot_weight => k_is)
    (case a_told_weight => k_is)
    (case l_told_weight => k_is)
    (case c_told_weight => k_is)
    (case k_told_weight => k_is)
    (case a_sum_of => k_is)
    (case l_sum_of => k_is)
    (case c_sum_of => k_is)
    (case k_sum_of => k_is)
    (case a_fraction => k_is)
    (case l_fraction => k_is)
    (case c_fraction => k_is)
    (case k_fraction => k_is)
    (case a__law_row => k_is)
    (case l__law_row => k_is)
    (case c__law_row => k_is)
    (case k__law_row => k_is)
    (case a__law_taken => k_is)
    (case l__law_taken => k_is)
    (case c__law_taken => k_is)
    (case k__law_taken => k_is)
    (case a__law_lot => k_is)
    (case l__law_lot => k_is)
    (case c__law_lot => k_is)
    (case k__law_lot => k_is)
    (case a__law_plan => k_is)
    (case l__law_plan => k_is)
    (case c__law_plan => k_is)
    (case k__law_plan => k_is)
    (case a__law_answers => k_is)
    (case l__law_answers => k_is)
    (case c__law_answers => k_is)
    (case k__law_answers => k_is)
    (case a__law_said => k_is)
    (case l__law_said => k_is)
    (case c__law_said => k_is)
    (case k__law_said => k_is)
    (case a__law_chances => k_is)
    (case l__law_chances => k_is)
    (case c__law_chances => k_is)
    (case k__law_chances => k_is)
    (case a__law_word => k_is)
    (case l__law_word => k_is)
    (case c__law_word => k_is)
    (case k__law_word => k_is)
    (case a_check_slips => k_is)
    (case l_check_slips => k_is)
    (case c_check_slips => k_is)
    (case k_check_slips => k_is)
    (case a_check_lot => k_is)
    (case l_check_lot => k_is)
    (case c_check_lot => k_is)
    (case k_check_lot => k_is)
    (case a_slips_in => k_is)
    (case l_slips_in => k_is)
    (case c_slips_in => k_is)
    (case k_slips_in => k_is)
    (case a_how_many_have => k_is)
    (case l_how_many_have => k_is)
    (case c_how_many_have => k_is)
    (case k_how_many_have => k_is)
    (case a_answers => k_is)
    (case l_answers => k_is)
    (case c_answers => k_is)
    (case k_answers => k_is)
    (case a_kinds => k_is)
    (case l_kinds => k_is)
    (case c_kinds => k_is)
    (case k_kinds => k_is)
    (case a_how_many_unlike => k_is)
    (case l_how_many_unlike => k_is)
    (case c_how_many_unlike => k_is)
    (case k_how_many_unlike => k_is)
    (case a_idle => k_is)
    (case l_idle => k_is)
    (case c_idle => k_is)
    (case k_idle => k_is)
    (case a_without => k_is)
    (case l_without => k_is)
    (case c_without => k_is)
    (case k_without => k_is)
    (case a_beside => k_is)
    (case l_beside => k_is)
    (case c_beside => k_is)
    (case k_beside => k_is)
    (case a_moved => k_is)
    (case l_moved => k_is)
    (case c_moved => k_is)
    (case k_moved => k_is)
    (case a__law_moved => k_is)
    (case l__law_moved => k_is)
    (case c__law_moved => k_is)
    (case k__law_moved => k_is)
    (case a_could => k_is)
    (case l_could => k_is)
    (case c_could => k_is)
    (case k_could => k_is)
    (case n_could => k_is)
    (case a_sure => k_is)
    (case l_sure => k_is)
    (case c_sure => k_is)
    (case k_sure => k_is)
    (case n_sure => k_is)
    (case a_law => k_is)
    (case l_law => k_is)
    (case c_law => k_is)
    (case k_law => k_is)
    (case a_MOST_THINGS => k_is)
    (case a_MOST_PROBES => k_is)
    (case a_MOST_BAD => k_is)
    (case a_MOST_SLIPS => k_is)
    (case a_HUNDRED => k_is)
    (case z_len => k_is)
    (case z_any => k_is)
    (case z_sum => k_is)
    (case z_isinstance => k_is)
    (case z_tuple => k_is)
    (case z_list => k_is)
    (case z_int => k_is)
    (case z_bool => k_is)
    (case z_str => k_is)
    (case z_range => k_is)
    (case z_enumerate => k_is)
    (case z_zip => k_is)
    (case z_sorted => k_is)
    (case z_ValueError => k_is)
    (case z_super => k_is)
    (case a_BadPlan => k_is)
    (case a_BadAnswers => k_is)
    (case a_BadChances => k_is)
    (case a_BadDeed => k_is)
    (case a_Halted => k_is)
    (case a_BadTree => k_is)
    (case a_BadText => k_is)
    (case a_BadLot => k_is)
    (case a_BadCount => k_is)
    (case a_NoLot => k_is)
    (case a_ProbeError => k_is)
    (case a_comb => k_is)
    (case a_gcd => k_is)
    (case l_B0 => first | k_is | kernel_rfl | rfl)
    (case r_B0 => first | k_is | kernel_rfl | rfl)
    (case al_B0 => first | k_is | kernel_rfl | rfl)
    (case ini_B0 => first | k_is | kernel_rfl | rfl)
    (case sa_B0 => first | k_is | kernel_rfl | rfl)
    (case no_B0 => first | k_is | kernel_rfl | rfl)
    (case sb_B0 => first | k_is | kernel_rfl | rfl)
    (case ty_B0 => first | k_is | kernel_rfl | rfl)
    (case kp_B0 => first | k_is | kernel_rfl | rfl)
    (case fi_B0 => first | k_is | kernel_rfl | rfl)
    (case tf_B0 => first | k_is | kernel_rfl | rfl)
    (case l_fI0 => first | k_is | kernel_rfl | rfl)
    (case n_fI0 => first | k_is | kernel_rfl | rfl)
    (case c_fI0 => first | k_is | kernel_rfl | rfl)
    (case l_cd0 => first | k_is | kernel_rfl | rfl)
    (case v_cd0 => first | exact ⟨_, _, rfl, rfl⟩ | exact ⟨_, _, by kernel_rfl, by kernel_rfl⟩ | exact ⟨_, _, rfl, by decide +kernel⟩)
    (case l_cc0 => first | k_is | kernel_rfl | rfl)
    (case l_B1 => first | k_is | kernel_rfl | rfl)
    (case r_B1 => first | k_is | kernel_rfl | rfl)
    (case al_B1 => first | k_is | kernel_rfl | rfl)
    (case ini_B1 => first | k_is | kernel_rfl | rfl)
    (case sa_B1 => first | k_is | kernel_rfl | rfl)
    (case no_B1 => first | k_is | kernel_rfl | rfl)
    (case sb_B1 => first | k_is | kernel_rfl | rfl)
    (case ty_B1 => first | k_is | kernel_rfl | rfl)
    (case kp_B1 => first | k_is | kernel_rfl | rfl)
    (case fi_B1 => first | k_is | kernel_rfl | rfl)
    (case tf_B1 => first | k_is | kernel_rfl | rfl)
    (case l_fI1 => first | k_is | kernel_rfl | rfl)
    (case n_fI1 => first | k_is | kernel_rfl | rfl)
    (case c_fI1 => first | k_is | kernel_rfl | rfl)
    (case l_cd1 => first | k_is | kernel_rfl | rfl)
    (case v_cd1 => first | exact ⟨_, _, rfl, rfl⟩ | exact ⟨_, _, by kernel_rfl, by kernel_rfl⟩ | exact ⟨_, _, rfl, by decide +kernel⟩)
    (case l_cc1 => first | k_is | kernel_rfl | rfl)
    (case l_B2 => first | k_is | kernel_rfl | rfl)
    (case r_B2 => first | k_is | kernel_rfl | rfl)
    (case al_B2 => first | k_is | kernel_rfl | rfl)
    (case ini_B2 => first | k_is | kernel_rfl | rfl)
    (case sa_B2 => first | k_is | kernel_rfl | rfl)
    (case no_B2 => first | k_is | kernel_rfl | rfl)
    (case sb_B2 => first | k_is | kernel_rfl | rfl)
    (case ty_B2 => first | k_is | kernel_rfl | rfl)
    (case kp_B2 => first | k_is | kernel_rfl | rfl)
    (case fi_B2 => first | k_is | kernel_rfl | rfl)
    (case tf_B2 => first | k_is | kernel_rfl | rfl)
    (case l_fI2 => first | k_is | kernel_rfl | rfl)
    (case n_fI2 => first | k_is | kernel_rfl | rfl)
    (case c_fI2 => first | k_is | kernel_rfl | rfl)
    (case l_cd2 => first | k_is | kernel_rfl | rfl)
    (case v_cd2 => first | exact ⟨_, _, rfl, rfl⟩ | exact ⟨_, _, by kernel_rfl, by kernel_rfl⟩ | exact ⟨_, _, rfl, by decide +kernel⟩)
    (case l_cc2 => first | k_is | kernel_rfl | rfl)
    (case t_sup => first | k_is | kernel_rfl | rfl)
    (case o_sup => first | k_is | kernel_rfl | rfl)
    (case q_7 => first | k_is | kernel_rfl | rfl)
    (case kp_7 => first | k_is | kernel_rfl | rfl)
    (case sb_7 => first | k_is | kernel_rfl | rfl)
    (case ty_7 => first | k_is | kernel_rfl | rfl)
    (case q_8 => first | k_is | kernel_rfl | rfl)
    (case kp_8 => first | k_is | kernel_rfl | rfl)
    (case sb_8 => first | k_is | kernel_rfl | rfl)
    (case ty_8 => first | k_is | kernel_rfl | rfl)
    (case q_9 => first | k_is | kernel_rfl | rfl)
    (case kp_9 => first | k_is | kernel_rfl | rfl)
    (case sb_9 => first | k_is | kernel_rfl | rfl)
    (case ty_9 => first | k_is | kernel_rfl | rfl)
    (case e_9 => first | k_is | kernel_rfl | rfl)
    (case hne_Pa_Pt => decide)
    (case t_Pa => exact km_tabs_of Y 403 (by decide))
    (case n_Pa => first | k_is | kernel_rfl)
    (case hd_Pa => first | k_is | kernel_rfl)
    (case tP => exact km_tabs_of Y 527 (by decide))
    (case nP => first | k_is | kernel_rfl)
    (case hd => first | k_is | kernel_rfl)
