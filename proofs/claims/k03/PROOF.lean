import PyProof.Rows.All
import PySem.Challenge.RW_probelots_k03_what_may_be_so
import Wide.All
import OpenK.AllK
import Wide.FinOn
import PyProof.EqAt
import PyProof.EqKinds
import PyProof.TupleCall
import Open.SpecLaws
import KE.OsGo
import HandS.EndTab
import HandS.MakeKwOnly
import HandS.ForMost
import HandS.Lambda
import HandS.Walk
import HandS.TupAny
import HandS.Zip
import HandS.Defaults
import HandS.IsInst
import HandS.Conv
import HandS.TupSets
import HandS.CallLocal
import KE.GoesEnum
import KE.GoesMore
import HandS.RepeatKit
import HandS.SortKw
import KE.SortKeyHeap
set_option Elab.async false
set_option linter.all false
set_option maxRecDepth 100000
set_option maxHeartbeats 4000000
/-! A layer over HandS: expressions and statements by the DATA that the slots hold. -/
namespace Dv
open PySem PySem.Spec L2
open PyProof.Rows hiding St
/-- the drawing row at a: its list of four, the script known -/
def RowAt (K : PySem.W.Frag) (H : Hp) (a : Addr) : Prop := ∃ (sc : Addr) (ns : List Int) (i c m : Int), H a = some (.lst [.ref sc, .int i, .int c, .int m]) ∧ SqL K H sc (ns.map V.int) ∧
  0 ≤ i ∧ 0 ≤ m ∧ m < 2147483647
/-- what may be written over: nothing, a list, a set of tuples -/
def Fre (H : Hp) (p : Addr) : Prop := H p = none ∨ (∃ xs, H p = some (.lst xs)) ∨ ∃ (P : Program) (w : World) (L : List (Addr × List Int)), H p = some (SetTO P w p L)
/-- the world of a proof: r, the row; X, what may change; J, what is kept of the heap -/
structure Wd (K : PySem.W.Frag) (T : List (Addr × Str)) where
  r : Option Addr
  X : Addr → Prop
  J : Hp → Prop
  ju : ∀ {H : Hp} {p : Addr} {o : HO}, J H → Fre H p → ¬ X p → J (upd H p o)
  jx : ∀ {H : Hp} {a : Addr}, J H → X a → H a ≠ none
  jt : ∀ {H H1 : Hp}, J H → LamX.ExtN H H1 → LamX.Tabs T H1 → J H1
  jT : ∀ {H : Hp}, J H → LamX.Tabs T H
  rx : ∀ {a : Addr}, r = some a → X a
  row : ∀ {H : Hp} {a : Addr}, J H → r = some a → RowAt K H a
  jw : ∀ {H : Hp} {a sc : Addr} {i c m i' c' m' : Int}, J H → r = some a → H a = some (.lst [.ref sc, .int i, .int c, .int m]) → 0 ≤ i' → 0 ≤ m' → m' < 2147483647 → J (upd H a (.lst [.ref sc, .int i', .int c', .int m']))
section
variable {K : PySem.W.Frag} {T : List (Addr × Str)}
structure Ex (W : Wd K T) (H H' : Hp) : Prop where
  k : ∀ a o, H a = some o → (∀ ps, o ≠ .tbl ps) → ¬ W.X a → H' a = some o
variable {W W2 : Wd K T}
theorem Ex.refl (H : Hp) : Ex W H H := ⟨fun _ _ h _ _ => h⟩
theorem Ex.trans {H H1 H2 : Hp} (a : Ex W H H1) (b : Ex W H1 H2) : Ex W H H2 := ⟨fun x o h n r => b.k x o (a.k x o h n r) n r⟩
theorem Ex.new {H : Hp} {p : Addr} {o : HO} (h : H p = none) : Ex W H (upd H p o) := ⟨fun a u e _ _ => by
  rw [upd_ne (ne_of_none e h)]
  exact e⟩
/-- a new object that H1 does not know may change -/
theorem Ex.mut {H H1 H' : Hp} {p : Addr} {o : HO} (e1 : Ex W H H1) (n : H1 p = none) (e : Ex W H1 H') : Ex W H (upd H' p o) := ⟨fun a u ha hn hr => by
  have q := e1.k a u ha hn hr
  rw [upd_ne (ne_of_none q n)]
  exact e.k a u q hn hr⟩
theorem Ex.out {H H' : Hp} {p : Addr} {o : HO} (e : Ex W H H') (hp : W.X p) : Ex W H (upd H' p o) := ⟨fun a u ha hn hr => by
  have q : a ≠ p := fun z => hr (by rw [z]; exact hp)
  rw [upd_ne q]
  exact e.k a u ha hn hr⟩
theorem Ex.same {H H' : Hp} (e : ∀ b o, H b = some o → H' b = some o) : Ex W H H' := ⟨fun a o h _ _ => e a o h⟩
theorem Ex.extN {H H' : Hp} (e : LamX.ExtN H H') : Ex W H H' := ⟨fun a o h n _ => e a o h n⟩
theorem new_ne {H : Hp} {p : Addr} (j : W.J H) (h : H p = none) : ¬ W.X p := fun z => W.jx j z h
theorem j_new {H : Hp} {p : Addr} {o : HO} (j : W.J H) (h : H p = none) : W.J (upd H p o) := W.ju j (.inl h) (new_ne j h)
/-- p was new on the way from H to H' -/
def Fr (W : Wd K T) (H : Hp) (p : Addr) (H' : Hp) : Prop := ∃ H1, Ex W H H1 ∧ H1 p = none ∧ Ex W H1 H'
theorem Fr.ex {H H' : Hp} {p : Addr} (f : Fr W H p H') : Ex W H H' := let ⟨_, a, _, b⟩ := f; a.trans b
theorem Fr.pre {H0 H H' : Hp} {p : Addr} (e : Ex W H0 H) (f : Fr W H p H') : Fr W H0 p H' := let ⟨h, a, n, b⟩ := f; ⟨h, e.trans a, n, b⟩
theorem Fr.post {H H' H2 : Hp} {p : Addr} (f : Fr W H p H') (e : Ex W H' H2) : Fr W H p H2 := let ⟨h, a, n, b⟩ := f; ⟨h, a, n, b.trans e⟩
theorem Fr.mut {H H' : Hp} {p : Addr} {o : HO} (f : Fr W H p H') : Ex W H (upd H' p o) := let ⟨_, a, n, b⟩ := f; a.mut n b
theorem Fr.new {H : Hp} {p : Addr} {o : HO} (h : H p = none) : Fr W H p (upd H p o) := ⟨H, .refl H, h, .new h⟩
/-! ### data -/
mutual
inductive D (W : Wd K T) (H : Hp) : V → PyData → Prop
  | non : D W H .non .none
  | bl (b : Bool) : D W H (.bl b) (.bool b)
  | int (i : Int) : D W H (.int i) (.int i)
  | str (x : Str) : D W H (.str x) (.str x)
  | lst {a : Addr} {xs : List V} {ds : List PyData} : ¬ W.X a → H a = some (.lst xs) → DAll W H xs ds → D W H (.ref a) (.list ds)
  | tup {a : Addr} {xs : List V} {ds : List PyData} : ¬ W.X a → H a = some (.tup xs) → DAll W H xs ds → D W H (.ref a) (.tuple ds)
inductive DAll (W : Wd K T) (H : Hp) : List V → List PyData → Prop
  | nil : DAll W H [] []
  | cons {v : V} {vs : List V} {d : PyData} {ds : List PyData} : D W H v d → DAll W H vs ds → DAll W H (v :: vs) (d :: ds)
end
mutual
theorem D.mono {H H' : Hp} (e : Ex W H H') : ∀ {v : V} {d : PyData}, D W H v d → D W H' v d
  | _, _, .non => .non
  | _, _, .bl b => .bl b
  | _, _, .int i => .int i
  | _, _, .str x => .str x
  | _, _, .lst r h a => .lst r (e.k _ _ h (fun _ z => by cases z) r) (DAll.mono e a)
  | _, _, .tup r h a => .tup r (e.k _ _ h (fun _ z => by cases z) r) (DAll.mono e a)
theorem DAll.mono {H H' : Hp} (e : Ex W H H') : ∀ {vs : List V} {ds : List PyData}, DAll W H vs ds → DAll W H' vs ds
  | _, _, .nil => .nil
  | _, _, .cons a b => .cons (D.mono e a) (DAll.mono e b)
end
mutual
/-- another world, in which no known object is taken out -/
theorem D.to {H : Hp} (e : ∀ a o, H a = some o → ¬ W.X a → ¬ W2.X a) : ∀ {v : V} {d : PyData}, D W H v d → D W2 H v d
  | _, _, .non => .non
  | _, _, .bl b => .bl b
  | _, _, .int i => .int i
  | _, _, .str x => .str x
  | _, _, .lst r h a => .lst (e _ _ h r) h (DAll.to e a)
  | _, _, .tup r h a => .tup (e _ _ h r) h (DAll.to e a)
theorem DAll.to {H : Hp} (e : ∀ a o, H a = some o → ¬ W.X a → ¬ W2.X a) : ∀ {vs : List V} {ds : List PyData}, DAll W H vs ds → DAll W2 H vs ds
  | _, _, .nil => .nil
  | _, _, .cons a b => .cons (D.to e a) (DAll.to e b)
end
mutual
theorem D.dp {H : Hp} {K' : PySem.W.Frag} : ∀ {v : V} {d : PyData}, D W H v d → Dp K' H v d
  | _, _, .non => .non
  | _, _, .bl b => .bl b
  | _, _, .int i => .int i
  | _, _, .str x => .str x
  | _, _, .lst r h a => .lst (SqL.of h) (DAll.dp a)
  | _, _, .tup r h a => .tup (SqT.of h) (DAll.dp a)
theorem DAll.dp {H : Hp} {K' : PySem.W.Frag} : ∀ {vs : List V} {ds : List PyData}, DAll W H vs ds → DpAll K' H vs ds
  | _, _, .nil => .nil
  | _, _, .cons a b => .cons (D.dp a) (DAll.dp b)
end
theorem DAll.length {H : Hp} : ∀ {vs : List V} {ds : List PyData}, DAll W H vs ds → vs.length = ds.length
  | _, _, .nil => rfl
  | _, _, .cons _ t => by rw [List.length_cons, List.length_cons, DAll.length t]
theorem DAll.get {H : Hp} : ∀ {vs : List V} {ds : List PyData} {i : Nat} {d : PyData}, DAll W H vs ds → ds[i]? = some d → ∃ v, vs[i]? = some v ∧ D W H v d
  | _, _, _, _, .nil, e => by simp at e
  | _, _, 0, _, .cons r _, e => by simp at e; subst e; exact ⟨_, rfl, r⟩
  | _, _, i + 1, d, .cons _ t, e => by
    obtain ⟨u, h1, h2⟩ := DAll.get (i := i) (d := d) t (by simpa using e)
    exact ⟨u, by simpa using h1, h2⟩
theorem DAll.getV {H : Hp} : ∀ {vs : List V} {ds : List PyData} {i : Nat} {v : V}, DAll W H vs ds → vs[i]? = some v → ∃ d, ds[i]? = some d ∧ D W H v d
  | _, _, _, _, .nil, e => by simp at e
  | _, _, 0, _, .cons r _, e => by simp at e; subst e; exact ⟨_, rfl, r⟩
  | _, _, i + 1, v, .cons _ t, e => by
    obtain ⟨u, h1, h2⟩ := DAll.getV (i := i) (v := v) t (by simpa using e)
    exact ⟨u, by simpa using h1, h2⟩
theorem DAll.append {H : Hp} : ∀ {xs ys : List V} {ds es : List PyData}, DAll W H xs ds → DAll W H ys es → DAll W H (xs ++ ys) (ds ++ es)
  | _, _, _, _, .nil, s => s
  | _, _, _, _, .cons r t, s => .cons r (DAll.append t s)
theorem DAll.one {H : Hp} {v : V} {d : PyData} (h : D W H v d) : DAll W H [v] [d] := .cons h .nil
theorem DAll.take {H : Hp} : ∀ {xs : List V} {ds : List PyData} (n : Nat), DAll W H xs ds → DAll W H (xs.take n) (ds.take n)
  | _, _, 0, _ => .nil
  | _, _, _ + 1, .nil => .nil
  | _, _, n + 1, .cons r t => .cons r (DAll.take n t)
theorem DAll.drop {H : Hp} : ∀ {xs : List V} {ds : List PyData} (n : Nat), DAll W H xs ds → DAll W H (xs.drop n) (ds.drop n)
  | _, _, 0, r => r
  | _, _, _ + 1, .nil => .nil
  | _, _, n + 1, .cons _ t => DAll.drop n t
theorem DAll.nil_iff {H : Hp} {xs : List V} {ds : List PyData} (h : DAll W H xs ds) : xs = [] ↔ ds = [] := by
  have q := h.length
  constructor
  · intro e; subst e; exact List.eq_nil_of_length_eq_zero q.symm
  · intro e; subst e; exact List.eq_nil_of_length_eq_zero q
theorem D.int_inv {H : Hp} {v : V} {i : Int} (h : D W H v (.int i)) : v = .int i := by cases h; rfl
theorem D.bool_inv {H : Hp} {v : V} {b : Bool} (h : D W H v (.bool b)) : v = .bl b := by cases h; rfl
theorem D.none_inv {H : Hp} {v : V} (h : D W H v .none) : v = .non := by cases h; rfl
theorem D.tup_inv {H : Hp} {v : V} {ds : List PyData} (h : D W H v (.tuple ds)) : ∃ a xs, v = .ref a ∧ ¬ W.X a ∧ H a = some (.tup xs) ∧ DAll W H xs ds := by cases h with | tup r h a => exact ⟨_, _, rfl, r, h, a⟩
theorem D.lst_inv {H : Hp} {v : V} {ds : List PyData} (h : D W H v (.list ds)) : ∃ a xs, v = .ref a ∧ ¬ W.X a ∧ H a = some (.lst xs) ∧ DAll W H xs ds := by cases h with | lst r h a => exact ⟨_, _, rfl, r, h, a⟩
/-! ### what a slot holds -/
inductive Ob where
  | dat (d : PyData) | row | cnt (n : Nat) | fn (f : Addr)
inductive OD (W : Wd K T) (H : Hp) : V → Ob → Prop
  | dat {v : V} {d : PyData} : D W H v d → OD W H v (.dat d)
  | row {a : Addr} : W.r = some a → OD W H (.ref a) .row
  | cnt {a : Addr} {kvs : List (List Key × V)} : ¬ W.X a → H a = some (.dT kvs) → OD W H (.ref a) (.cnt kvs.length)
  | fn {f : Addr} : OD W H (.ref f) (.fn f)
theorem OD.mono {H H' : Hp} (e : Ex W H H') {v : V} {o : Ob} (h : OD W H v o) : OD W H' v o := by
  cases h with
  | dat h => exact .dat (h.mono e)
  | row h => exact .row h
  | cnt n h => exact .cnt n (e.k _ _ h (fun _ z => by cases z) n)
  | fn => exact .fn
abbrev Ctx := List (Option Ob)
structure Sl (W : Wd K T) (H : Hp) (σ : L2.St) (G : Ctx) : Prop where
  len : G.length = σ.length
  at_ : ∀ (i : Nat) (o : Ob), G[i]? = some (some o) → ∃ v, σ[i]? = some (some v) ∧ OD W H v o
theorem Sl.mono {H H' : Hp} {σ : L2.St} {G : Ctx} (e : Ex W H H') (h : Sl W H σ G) : Sl W H' σ G := ⟨h.len, fun i o q => let ⟨v, a, b⟩ := h.at_ i o q; ⟨v, a, b.mono e⟩⟩
theorem Sl.to {H : Hp} {σ : L2.St} {G : Ctx} (e : ∀ a o, H a = some o → ¬ W.X a → ¬ W2.X a) (er : W2.r = W.r) (h : Sl W H σ G) : Sl W2 H σ G := ⟨h.len, fun i o q => by
  obtain ⟨v, a, b⟩ := h.at_ i o q
  refine ⟨v, a, ?_⟩
  cases b with
  | dat b => exact .dat (b.to e)
  | row b => exact .row (er.trans b)
  | cnt n b => exact .cnt (e _ _ b n) b
  | fn => exact .fn⟩
theorem Sl.set {H : Hp} {σ : L2.St} {G : Ctx} {i : Nat} {v : V} {o : Ob} (h : Sl W H σ G) (q : OD W H v o) : Sl W H (σ.set i (some v)) (G.set i (some o)) := ⟨by simpa using h.len, fun j u e => by
  by_cases hj : i = j
  · subst hj
    by_cases hl : i < G.length
    · rw [List.getElem?_set_self hl] at e
      cases e
      exact ⟨v, by rw [List.getElem?_set_self (by rw [← h.len]; exact hl)], q⟩
    · rw [List.getElem?_eq_none (by simpa using hl)] at e
      cases e
  · rw [List.getElem?_set_ne hj] at e
    rw [List.getElem?_set_ne hj]
    exact h.at_ j u e⟩
theorem Sl.unset {H : Hp} {σ : L2.St} {G : Ctx} {i : Nat} (h : Sl W H σ G) : Sl W H (σ.set i none) (G.set i none) := ⟨by simpa using h.len, fun j u e => by
  by_cases hj : i = j
  · subst hj
    by_cases hl : i < G.length
    · rw [List.getElem?_set_self hl] at e
      cases e
    · rw [List.getElem?_eq_none (by simpa using hl)] at e
      cases e
  · rw [List.getElem?_set_ne hj] at e
    rw [List.getElem?_set_ne hj]
    exact h.at_ j u e⟩
theorem Sl.weak {H : Hp} {σ : L2.St} {G G' : Ctx} (h : Sl W H σ G) (hl : G'.length = G.length) (w : ∀ (i : Nat) (o : Ob), G'[i]? = some (some o) → G[i]? = some (some o)) : Sl W H σ G' := ⟨hl.trans h.len, fun i o q => h.at_ i o (w i o q)⟩
def wipeG (G : Ctx) : List Nat → Ctx
  | [] => G
  | v :: vs => (wipeG G vs).set v none
theorem Sl.wipe {H : Hp} {σ : L2.St} {G : Ctx} (h : Sl W H σ G) : ∀ vs : List Nat, Sl W H (L2.wipe σ vs) (wipeG G vs)
  | [] => h
  | v :: vs => (Sl.wipe h vs).unset
end
theorem wipe_get {σ : L2.St} {k : Nat} : ∀ {vs : List Nat}, (L2.wipe σ vs)[k]? = if k ∈ vs then (σ[k]?).map (fun _ => none) else σ[k]?
  | [] => by simp [L2.wipe]
  | v :: vs => by
    unfold L2.wipe
    by_cases hv : v = k
    · subst hv
      rw [if_pos (List.mem_cons_self ..)]
      by_cases hl : v < (L2.wipe σ vs).length
      · rw [List.getElem?_set_self hl]
        rw [wipe_length] at hl
        rw [List.getElem?_eq_getElem hl]
        rfl
      · rw [List.getElem?_eq_none (by simpa using hl)]
        rw [wipe_length] at hl
        rw [List.getElem?_eq_none (by omega)]
        rfl
    · rw [List.getElem?_set_ne hv, wipe_get (vs := vs)]
      by_cases hm : k ∈ vs
      · rw [if_pos hm, if_pos (List.mem_cons_of_mem _ hm)]
      · rw [if_neg hm, if_neg (by simp only [List.mem_cons, not_or]; exact ⟨fun z => hv z.symm, hm⟩)]
theorem wipe_same {σ σ' : L2.St} {vs : List Nat} (hl : σ'.length = σ.length) (h : ∀ k, k ∉ vs → σ'[k]? = σ[k]?) : L2.wipe σ' vs = L2.wipe σ vs := by
  apply List.ext_getElem?
  intro k
  rw [wipe_get, wipe_get]
  by_cases hk : k ∈ vs
  · rw [if_pos hk, if_pos hk]
    by_cases h1 : k < σ.length
    · rw [List.getElem?_eq_getElem h1, List.getElem?_eq_getElem (show k < σ'.length by omega)]
      rfl
    · rw [List.getElem?_eq_none (by omega), List.getElem?_eq_none (by omega)]
  · rw [if_neg hk, if_neg hk]
    exact h k hk
theorem wipe_wipe {σ : L2.St} {vs : List Nat} : L2.wipe (L2.wipe σ vs) vs = L2.wipe σ vs := wipe_same (wipe_length σ vs) fun k hk => by rw [wipe_get, if_neg hk]
section
variable {K : PySem.W.Frag} {T : List (Addr × Str)} {W W2 : Wd K T}
/-! ### expressions -/
/-- te gives data of which P holds -/
def E (K : PySem.W.Frag) (T : List (Addr × Str)) (te : TE) (G : Ctx) (P : PyData → Prop) : Prop := ∀ (W : Wd K T) (σ : L2.St) (H : Hp), Sl W H σ G → W.J H → ∀ Q : VK, (∀ v d H', Ex W H H' → W.J H' → D W H' v d → P d → Q v H') → te σ H Q
/-- te gives a new list -/
def EL (K : PySem.W.Frag) (T : List (Addr × Str)) (te : TE) (G : Ctx) (P : List PyData → Prop) : Prop := ∀ (W : Wd K T) (σ : L2.St) (H : Hp), Sl W H σ G → W.J H → ∀ Q : VK, (∀ p xs ds H', Fr W H p H' → W.J H' → ¬ W.X p → H' p = some (.lst xs) → DAll W H' xs ds → P ds → Q (.ref p) H') → te σ H Q
def EA (K : PySem.W.Frag) (T : List (Addr × Str)) (ta : TA) (G : Ctx) (P : List Ob → Prop) : Prop := ∀ (W : Wd K T) (σ : L2.St) (H : Hp), Sl W H σ G → W.J H → ∀ Q : List V → Hp → Prop, (∀ vs os H', Ex W H H' → W.J H' → Paired (OD W H') vs os → P os → Q vs H') → ta σ H Q
def ET (K : PySem.W.Frag) (T : List (Addr × Str)) (tt : TT) (G : Ctx) (P : Bool → Prop) : Prop := ∀ (W : Wd K T) (σ : L2.St) (H : Hp), Sl W H σ G → W.J H → ∀ Q : Bool → Hp → Prop, (∀ b H', Ex W H H' → W.J H' → P b → Q b H') → tt σ H Q
variable {G : Ctx} {ta tb tc te : TE} {t u : TT}
theorem E.imp {P P' : PyData → Prop} (h : E K T te G P) (i : ∀ d, P d → P' d) : E K T te G P' := fun W σ H s j Q q => h W σ H s j Q fun v d H' e j' a p => q v d H' e j' a (i d p)
theorem E.is {d d' : PyData} (h : E K T te G (· = d)) (e : d = d') : E K T te G (· = d') := h.imp fun _ z => z.trans e
theorem ET.imp {P P' : Bool → Prop} (h : ET K T t G P) (i : ∀ d, P d → P' d) : ET K T t G P' := fun W σ H s j Q q => h W σ H s j Q fun v H' e j' p => q v H' e j' (i v p)
theorem ET.is {b b' : Bool} (h : ET K T t G (· = b)) (e : b = b') : ET K T t G (· = b') := h.imp fun _ z => z.trans e
theorem EL.imp {P P' : List PyData → Prop} (h : EL K T te G P) (i : ∀ d, P d → P' d) : EL K T te G P' := fun W σ H s j Q q => h W σ H s j Q fun p xs ds H' e j' n h' a b => q p xs ds H' e j' n h' a (i ds b)
theorem EL.e {P : List PyData → Prop} (h : EL K T te G P) : E K T te G (fun d => ∃ ds, d = .list ds ∧ P ds) := fun W σ H s j Q q => h W σ H s j Q fun p xs ds H' e j' n h' a b =>
  q (.ref p) (.list ds) H' e.ex j' (.lst n h' a) ⟨ds, rfl, b⟩
theorem EL.is {ds : List PyData} (h : EL K T te G (· = ds)) : E K T te G (· = .list ds) := h.e.imp fun d ⟨x, e, z⟩ => by rw [e, z]
theorem e_var {i : Nat} {d : PyData} (h : G[i]? = some (some (.dat d)) := by rfl) : E K T (tVar i) G (· = d) := fun W σ H s j Q q => by
  obtain ⟨v, h1, h2⟩ := s.at_ i _ h
  cases h2 with
  | dat h2 => exact ⟨v, h1, q v d H (.refl H) j h2 rfl⟩
theorem e_int {i : Int} : E K T (tC (.int i)) G (· = .int i) := fun W σ H s j Q q => q _ _ H (.refl H) j (.int i) rfl
theorem e_non : E K T (tC .non) G (· = .none) := fun W σ H s j Q q => q _ _ H (.refl H) j .non rfl
theorem e_bl {b : Bool} : E K T (tC (.bl b)) G (· = .bool b) := fun W σ H s j Q q => q _ _ H (.refl H) j (.bl b) rfl
theorem e_str {x : Str} : E K T (tC (.str x)) G (· = .str x) := fun W σ H s j Q q => q _ _ H (.refl H) j (.str x) rfl
/-- a two-place operation on data -/
def RD (K : PySem.W.Frag) (T : List (Addr × Str)) (r : R2) (P Q' R : PyData → Prop) : Prop := ∀ (W : Wd K T) (H : Hp) (x y : V) (d e : PyData), W.J H → D W H x d → D W H y e → P d → Q' e → ∀ Q : VK, (∀ v z H', Ex W H H' → W.J H' → D W H' v z → R z → Q v H') → r x y H Q
theorem e_op {r : R2} {P Q R : PyData → Prop} (ha : E K T ta G P) (hb : E K T tb G Q) (hr : RD K T r P Q R) : E K T (tOp r ta tb) G R := fun W σ H s j Kk q =>
  ha W σ H s j _ fun x d H1 e1 j1 dx px => hb W σ H1 (s.mono e1) j1 _ fun y e H2 e2 j2 dy py => hr W H2 x y d e j2 (dx.mono e2) dy px py Kk fun v z H3 e3 j3 dz pz => q v z H3 ((e1.trans e2).trans e3) j3 dz pz
theorem rd_I0 {g : Int → Int → V} {i j : Int} {z : PyData} (hz : ∀ (W : Wd K T) H, D W H (g i j) z) : RD K T (rI0 g) (· = .int i) (· = .int j) (· = z) := fun W H x y d e jh dx dy px py Q q => by
  subst px py
  exact ⟨i, j, dx.int_inv, dy.int_inv, q _ _ H (.refl H) jh (hz W H) rfl⟩
theorem rd_I {C : Int → Int → Prop} {g : Int → Int → V} {i j : Int} {z : PyData} (hc : C i j) (hz : ∀ (W : Wd K T) H, D W H (g i j) z) : RD K T (rI C g) (· = .int i) (· = .int j) (· = z) := fun W H x y d e jh dx dy px py Q q => by
  subst px py
  exact ⟨i, j, dx.int_inv, dy.int_inv, hc, q _ _ H (.refl H) jh (hz W H) rfl⟩
theorem e_add {i j : Int} (ha : E K T ta G (· = .int i)) (hb : E K T tb G (· = .int j)) : E K T (tOp (rI0 fun i j => .int (i + j)) ta tb) G (· = .int (i + j)) := e_op ha hb (rd_I0 fun _ _ => .int _)
theorem e_sub {i j : Int} (ha : E K T ta G (· = .int i)) (hb : E K T tb G (· = .int j)) : E K T (tOp (rI0 fun i j => .int (i - j)) ta tb) G (· = .int (i - j)) := e_op ha hb (rd_I0 fun _ _ => .int _)
theorem e_cmp {f : Int → Int → Bool} {i j : Int} (ha : E K T ta G (· = .int i)) (hb : E K T tb G (· = .int j)) : E K T (tOp (rI0 fun i j => .bl (f i j)) ta tb) G (· = .bool (f i j)) := e_op ha hb (rd_I0 fun _ _ => .bl _)
/-- == of scalars -/
def scalD : PyData → PyData → Bool
  | .none, .none => true | .none, .int _ => true | .int _, .none => true | .none, .bool _ => true | .bool _, .none => true | .none, .str _ => true | .str _, .none => true
  | .int _, .int _ => true | .bool _, .bool _ => true | .str _, .str _ => true
  | .int _, .str _ => true | .str _, .int _ => true | .bool _, .str _ => true | .str _, .bool _ => true
  | _, _ => false
def eqD : PyData → PyData → Bool
  | .none, .none => true
  | .int a, .int b => decide (a = b)
  | .bool a, .bool b => decide (a = b)
  | .str a, .str b => decide (a = b)
  | _, _ => false
theorem scal_of {H : Hp} {x y : V} {d e : PyData} (dx : D W H x d) (dy : D W H y e) (h : scalD d e = true) : scal x y = true ∧ decide (x = y) = eqD d e := by
  cases dx <;> cases dy <;> first | (refine ⟨rfl, ?_⟩; simp [eqD]; done) | (refine ⟨rfl, ?_⟩; rfl) | (exact absurd h Bool.false_ne_true)
theorem e_eq {d e : PyData} (ha : E K T ta G (· = d)) (hb : E K T tb G (· = e)) (h : scalD d e = true) : E K T (tOp rEq ta tb) G (· = .bool (eqD d e)) := e_op ha hb fun W H x y d' e' jh dx dy px py Q q => by
  subst px py
  obtain ⟨h1, h2⟩ := scal_of dx dy h
  refine ⟨h1, ?_⟩
  rw [h2]
  exact q _ _ H (.refl H) jh (.bl _) rfl
theorem e_ne {d e : PyData} (ha : E K T ta G (· = d)) (hb : E K T tb G (· = e)) (h : scalD d e = true) : E K T (tOp rNe ta tb) G (· = .bool (!eqD d e)) := e_op ha hb fun W H x y d' e' jh dx dy px py Q q => by
  subst px py
  obtain ⟨h1, h2⟩ := scal_of dx dy h
  refine ⟨h1, ?_⟩
  rw [h2]
  exact q _ _ H (.refl H) jh (.bl _) rfl
/-- == of data of any depth -/
theorem e_eqD {K' : PySem.W.Frag} {d e : PyData} (ha : E K T ta G (· = d)) (hb : E K T tb G (· = e)) (h1 : SeqAt.shaped d = true) (h2 : SeqAt.shaped e = true) : E K T (tOp (rEqD K') ta tb) G (· = .bool (PyData.eqv d e)) := e_op ha hb fun W H x y d' e' jh dx dy px py Q q => by
  subst px py
  exact ⟨_, _, dx.dp, dy.dp, h1, h2, q _ _ H (.refl H) jh (.bl _) rfl⟩
theorem e_neD {K' : PySem.W.Frag} {d e : PyData} (ha : E K T ta G (· = d)) (hb : E K T tb G (· = e)) (h1 : SeqAt.shaped d = true) (h2 : SeqAt.shaped e = true) : E K T (tOp (rNeD K') ta tb) G (· = .bool (!PyData.eqv d e)) := e_op ha hb fun W H x y d' e' jh dx dy px py Q q => by
  subst px py
  exact ⟨_, _, dx.dp, dy.dp, h1, h2, q _ _ H (.refl H) jh (.bl _) rfl⟩
/-- is None -/
def isNone : PyData → Bool
  | .none => true
  | _ => false
theorem none_of {H : Hp} {x : V} {d : PyData} (dx : D W H x d) : decide (x = .non) = isNone d := by cases dx <;> simp [isNone]
theorem e_isN {d : PyData} (ha : E K T ta G (· = d)) : E K T (tIsN ta) G (· = .bool (isNone d)) := fun W σ H s j Q q => ha W σ H s j _ fun x e H1 e1 j1 dx px => by
  subst px
  have z := q _ _ H1 e1 j1 (.bl (isNone _)) rfl
  rw [← none_of dx] at z
  exact z
theorem e_notN {d : PyData} (ha : E K T ta G (· = d)) : E K T (tNotN ta) G (· = .bool (!isNone d)) := fun W σ H s j Q q => ha W σ H s j _ fun x e H1 e1 j1 dx px => by
  subst px
  have z := q _ _ H1 e1 j1 (.bl (!isNone _)) rfl
  rw [← none_of dx] at z
  exact z
/-! tests -/
theorem t_test {b : Bool} (h : E K T te G (· = .bool b)) : ET K T (tTest te) G (· = b) := fun W σ H s j Q q => h W σ H s j _ fun v d H1 e1 j1 dv p => by
  subst p
  exact ⟨b, dv.bool_inv, q b H1 e1 j1 rfl⟩
theorem t_B {b : Bool} (h : E K T te G (· = .bool b)) : ET K T (tB te) G (· = b) := fun W σ H s j Q q => h W σ H s j _ fun v d H1 e1 j1 dv p => by
  subst p
  exact ⟨b, dv.bool_inv, q b H1 e1 j1 rfl⟩
theorem t_any (h : E K T te G (fun d => ∃ b, d = .bool b)) : ET K T (tTest te) G (fun _ => True) := fun W σ H s j Q q => h W σ H s j _ fun v d H1 e1 j1 dv p => by
  obtain ⟨b, rfl⟩ := p
  exact ⟨b, dv.bool_inv, q b H1 e1 j1 trivial⟩
theorem t_yes : ET K T tYes G (· = true) := fun W σ H s j Q q => q true H (.refl H) j rfl
theorem t_not {a : Bool} (h : ET K T t G (· = a)) : ET K T (tNot t) G (· = !a) := fun W σ H s j Q q => h W σ H s j _ fun b H1 e1 j1 p => q _ H1 e1 j1 (by rw [p])
theorem t_and {a b : Bool} (h1 : ET K T t G (· = a)) (h2 : a = true → ET K T u G (· = b)) : ET K T (tAnd t u) G (· = (a && b)) := fun W σ H s j Q q => h1 W σ H s j _ fun c H1 e1 j1 p => by
  subst p
  cases c with
  | true => exact iteT (h2 rfl W σ H1 (s.mono e1) j1 _ fun c H2 e2 j2 p => q c H2 (e1.trans e2) j2 (by rw [p]; rfl))
  | false => exact iteF (q false H1 e1 j1 rfl)
theorem t_or {a b : Bool} (h1 : ET K T t G (· = a)) (h2 : a = false → ET K T u G (· = b)) : ET K T (tOr t u) G (· = (a || b)) := fun W σ H s j Q q => h1 W σ H s j _ fun c H1 e1 j1 p => by
  subst p
  cases c with
  | true => exact iteT (q true H1 e1 j1 rfl)
  | false => exact iteF (h2 rfl W σ H1 (s.mono e1) j1 _ fun c H2 e2 j2 p => q c H2 (e1.trans e2) j2 (by rw [p]; rfl))
theorem e_andV {a b : Bool} (h1 : E K T ta G (· = .bool a)) (h2 : a = true → E K T tb G (· = .bool b)) : E K T (tAndV ta tb) G (· = .bool (a && b)) := fun W σ H s j Q q => h1 W σ H s j _ fun v d H1 e1 j1 dv p => by
  subst p
  refine ⟨a, dv.bool_inv, ?_⟩
  cases a with
  | true => exact iteT (h2 rfl W σ H1 (s.mono e1) j1 _ fun v d H2 e2 j2 dv p => q v d H2 (e1.trans e2) j2 dv (by rw [p]; rfl))
  | false => exact iteF (q _ _ H1 e1 j1 (.bl false) rfl)
theorem e_orV {a b : Bool} (h1 : E K T ta G (· = .bool a)) (h2 : a = false → E K T tb G (· = .bool b)) : E K T (tOrV ta tb) G (· = .bool (a || b)) := fun W σ H s j Q q => h1 W σ H s j _ fun v d H1 e1 j1 dv p => by
  subst p
  refine ⟨a, dv.bool_inv, ?_⟩
  cases a with
  | true => exact iteT (q _ _ H1 e1 j1 (.bl true) rfl)
  | false => exact iteF (h2 rfl W σ H1 (s.mono e1) j1 _ fun v d H2 e2 j2 dv p => q v d H2 (e1.trans e2) j2 dv (by rw [p]; rfl))
theorem e_notV {a : Bool} (h1 : E K T ta G (· = .bool a)) : E K T (tNotV ta) G (· = .bool !a) := fun W σ H s j Q q => h1 W σ H s j _ fun v d H1 e1 j1 dv p => by
  subst p
  exact ⟨a, dv.bool_inv, q _ _ H1 e1 j1 (.bl _) rfl⟩
theorem e_if {b : Bool} {P : PyData → Prop} (h : ET K T t G (· = b)) (h1 : b = true → E K T ta G P) (h2 : b = false → E K T tb G P) : E K T (tIf t ta tb) G P := fun W σ H s j Q q => h W σ H s j _ fun c H1 e1 j1 p => by
  subst p
  cases c with
  | true => exact iteT (h1 rfl W σ H1 (s.mono e1) j1 _ fun v d H2 e2 j2 dv p => q v d H2 (e1.trans e2) j2 dv p)
  | false => exact iteF (h2 rfl W σ H1 (s.mono e1) j1 _ fun v d H2 e2 j2 dv p => q v d H2 (e1.trans e2) j2 dv p)
/-- a chain of two comparisons of ints -/
theorem e_chain {f g : Int → Int → Bool} {i j k : Int} (ha : E K T ta G (· = .int i)) (hb : E K T tb G (· = .int j)) (hc : E K T tc G (· = .int k)) :
    E K T (tChain (rI0 fun i j => .bl (f i j)) (rI0 fun i j => .bl (g i j)) ta tb tc) G (· = .bool (f i j && g j k)) := fun W σ H s jj Q q => ha W σ H s jj _ fun x d H1 e1 j1 dx px => hb W σ H1 (s.mono e1) j1 _ fun y e H2 e2 j2 dy py => by
  subst px py
  refine ⟨i, j, dx.int_inv, dy.int_inv, f i j, rfl, ?_⟩
  cases hf : f i j with
  | true =>
    refine iteT (hc W σ H2 ((s.mono e1).mono e2) j2 _ fun z c H3 e3 j3 dz pz => ?_)
    subst pz
    exact ⟨j, k, dy.int_inv, dz.int_inv, q _ _ H3 ((e1.trans e2).trans e3) j3 (.bl _) (by rw [hf, Bool.true_and])⟩
  | false => exact iteF (q _ _ H2 (e1.trans e2) j2 (.bl _) (by rw [hf, Bool.false_and]))
/-! arguments -/
theorem a_nil : EA K T tNil G (· = []) := fun W σ H s j Q q => q [] [] H (.refl H) j .nil rfl
theorem a_consP {P : PyData → Prop} {R : List Ob → Prop} {tr : TA} (h : E K T te G P) (hr : EA K T tr G R) : EA K T (tCons te tr) G (fun os => ∃ d r, os = .dat d :: r ∧ P d ∧ R r) := fun W σ H s j Q q =>
  h W σ H s j _ fun v d H1 e1 j1 dv p => hr W σ H1 (s.mono e1) j1 _ fun vs os H2 e2 j2 dvs ps => q (v :: vs) (.dat d :: os) H2 (e1.trans e2) j2 (.cons (.dat (dv.mono e2)) dvs) ⟨d, os, rfl, p, ps⟩
theorem a_cons {d : PyData} {r : List Ob} {tr : TA} (h : E K T te G (· = d)) (hr : EA K T tr G (· = r)) : EA K T (tCons te tr) G (· = .dat d :: r) := fun W σ H s j Q q =>
  a_consP h hr W σ H s j Q fun vs os H' e j' r ⟨d', r', e1, e2, e3⟩ => q vs os H' e j' r (by rw [e1, e2, e3])
theorem a_row {i : Nat} {R : List Ob} {tr : TA} (hr : EA K T tr G (· = R)) (h : G[i]? = some (some .row) := by rfl) : EA K T (tCons (tVar i) tr) G (· = .row :: R) := fun W σ H s j Q q => by
  obtain ⟨v, h1, h2⟩ := s.at_ i _ h
  exact ⟨v, h1, hr W σ H s j _ fun vs os H2 e2 j2 dvs ps => q (v :: vs) (.row :: os) H2 e2 j2 (.cons (h2.mono e2) dvs) (by rw [ps])⟩
theorem a_fn {f : Addr} {R : List Ob} {tr : TA} (hr : EA K T tr G (· = R)) : EA K T (tCons (tC (.ref f)) tr) G (· = .fn f :: R) := fun W σ H s j Q q => hr W σ H s j _ fun vs os H2 e2 j2 dvs ps => q (.ref f :: vs) (.fn f :: os) H2 e2 j2 (.cons .fn dvs) (by rw [ps])
theorem EA.imp {P P' : List Ob → Prop} {tr : TA} (h : EA K T tr G P) (i : ∀ d, P d → P' d) : EA K T tr G P' := fun W σ H s j Q q => h W σ H s j Q fun vs os H' e j' a p => q vs os H' e j' a (i os p)
theorem EA.is {o o' : List Ob} {tr : TA} (h : EA K T tr G (· = o)) (e : o = o') : EA K T tr G (· = o') := h.imp fun _ z => z.trans e
def dats : List PyData → List Ob := List.map .dat
theorem all_of {H : Hp} : ∀ {ds : List PyData} {vs : List V}, Paired (OD W H) vs (dats ds) → DAll W H vs ds
  | [], _, .nil => .nil
  | _ :: _, _, .cons (.dat h) t => .cons h (all_of t)
theorem e_tup {ds : List PyData} {tr : TA} (h : EA K T tr G (· = dats ds)) (hl : ds.length ≤ 100000) : E K T (tTup tr) G (· = .tuple ds) := fun W σ H s j Q q => h W σ H s j _ fun vs os H1 e1 j1 dv p => by
  subst p
  have a := all_of dv
  refine ⟨Nat.le_trans (by rw [a.length]; exact hl) (by decide), fun x hx => q _ _ _ (e1.trans (.new hx)) (j_new j1 hx) (.tup (new_ne j1 hx) upd_same (a.mono (.new hx))) rfl⟩
theorem el_lst {ds : List PyData} {tr : TA} (h : EA K T tr G (· = dats ds)) (hl : ds.length ≤ 100000) : EL K T (tLst tr) G (· = ds) := fun W σ H s j Q q => h W σ H s j _ fun vs os H1 e1 j1 dv p => by
  subst p
  have a := all_of dv
  exact ⟨Nat.le_trans (by rw [a.length]; exact hl) (by decide), fun x hx => q _ _ _ _ ((Fr.new hx).pre e1) (j_new j1 hx) (new_ne j1 hx) upd_same (a.mono (.new hx)) rfl⟩
end
end Dv
namespace Dv
open PySem PySem.Spec L2
open PyProof.Rows hiding St
section
variable {K : PySem.W.Frag} {T : List (Addr × Str)} {W W2 : Wd K T} {G G' : Ctx} {ta tb tc te : TE} {tt t u : TT}
/-! ### what is walked -/
/-- in W2 no known data are lost -/
def Cp (W W2 : Wd K T) (H : Hp) : Prop := ∀ v d, D W H v d → D W2 H v d
theorem Cp.refl (H : Hp) : Cp W W H := fun _ _ h => h
/-- wi walks n turns, at turn i an item of which yd i holds -/
def Iw (K : PySem.W.Frag) (T : List (Addr × Str)) (wi : TI) (G : Ctx) (n : Nat) (yd : Nat → PyData → Prop) : Prop := ∀ (W : Wd K T) (σ : L2.St) (H : Hp), Sl W H σ G → W.J H → ∀ R : It → Hp → Prop,
  (∀ (J' : It) (H1 : Hp) (Gd : Hp → Prop) (Y : Nat → Hp → V → Hp → Prop), Ex W H H1 → W.J H1 → Walk J' n Gd Y → (∀ (W2 : Wd K T) (H2 : Hp), Cp W W2 H1 → Ex W2 H1 H2 → Gd H2) →
    (∀ (W2 : Wd K T) (i : Nat) (H2 : Hp) (x : V) (H3 : Hp), Cp W W2 H1 → i < n → Ex W2 H1 H2 → W2.J H2 → Y i H2 x H3 → Ex W2 H2 H3 ∧ W2.J H3 ∧ ∃ d, D W2 H3 x d ∧ yd i d) → R J' H1) → wi σ H R
theorem Iw.imp {wi : TI} {n : Nat} {yd yd' : Nat → PyData → Prop} (h : Iw K T wi G n yd) (i : ∀ k d, k < n → yd k d → yd' k d) : Iw K T wi G n yd' := fun W σ H s j R r => h W σ H s j R fun J' H1 Gd Y e1 j1 w g y =>
  r J' H1 Gd Y e1 j1 w g fun W2 k H2 x H3 c hk e2 j2 q => by
    obtain ⟨a, b, d, p, z⟩ := y W2 k H2 x H3 c hk e2 j2 q
    exact ⟨a, b, d, p, i k d hk z⟩
theorem i_list {K' : PySem.W.Frag} {ds : List PyData} (h : E K T te G (· = .list ds)) : Iw K T (iList K' te) G ds.length (fun i d => ds[i]? = some d) := fun W σ H s j R r => h W σ H s j _ fun v d H1 e1 j1 dv p => by
  subst p
  obtain ⟨a, xs, rfl, nx, ha, al⟩ := dv.lst_inv
  have hl := al.length
  refine ⟨a, rfl, ⟨xs, SqL.of ha⟩, ?_⟩
  have w := walk_list (K := K') (a := a) (xs := xs)
  rw [hl] at w
  refine r (Itl K' a) H1 _ _ e1 j1 w (fun W2 H2 c e2 => ?_) fun W2 i H2 x H3 c hi e2 j2 y => ?_
  · obtain ⟨a', xs', ea, nx', ha', al'⟩ := (c _ _ dv).lst_inv
    cases ea
    rw [ha] at ha'; cases ha'
    exact SqL.of (e2.k _ _ ha (fun _ z => by cases z) nx')
  · obtain ⟨rfl, hx⟩ := y
    obtain ⟨a', xs', ea, nx', ha', al'⟩ := (c _ _ dv).lst_inv
    cases ea
    rw [ha] at ha'; cases ha'
    obtain ⟨d, h1, h2⟩ := al'.getV hx
    exact ⟨.refl _, j2, d, h2.mono e2, h1⟩
theorem i_tup {K' : PySem.W.Frag} {ds : List PyData} (h : E K T te G (· = .tuple ds)) : Iw K T (iTup K' te) G ds.length (fun i d => ds[i]? = some d) := fun W σ H s j R r => h W σ H s j _ fun v d H1 e1 j1 dv p => by
  subst p
  obtain ⟨a, xs, rfl, nx, ha, al⟩ := dv.tup_inv
  have hl := al.length
  refine ⟨a, rfl, ⟨xs, SqT.of ha⟩, ?_⟩
  have w := walk_tup (K := K') (a := a) (xs := xs)
  rw [hl] at w
  refine r (Itt K' a) H1 _ _ e1 j1 w (fun W2 H2 c e2 => ?_) fun W2 i H2 x H3 c hi e2 j2 y => ?_
  · obtain ⟨a', xs', ea, nx', ha', al'⟩ := (c _ _ dv).tup_inv
    cases ea
    rw [ha] at ha'; cases ha'
    exact SqT.of (e2.k _ _ ha (fun _ z => by cases z) nx')
  · obtain ⟨rfl, hx⟩ := y
    obtain ⟨a', xs', ea, nx', ha', al'⟩ := (c _ _ dv).tup_inv
    cases ea
    rw [ha] at ha'; cases ha'
    obtain ⟨d, h1, h2⟩ := al'.getV hx
    exact ⟨.refl _, j2, d, h2.mono e2, h1⟩
theorem i_rng1 {n : Int} {tr : TA} (h : EA K T tr G (· = [.dat (.int n)])) (hn : -100000 ≤ n ∧ n ≤ 100000) : Iw K T (iRng1 tr) G n.toNat (fun i d => d = .int i) := fun W σ H s j R r => h W σ H s j _ fun vs os H1 e1 j1 dv p => by
  subst p
  have a := all_of (ds := [.int n]) dv
  cases a with
  | cons a b =>
    cases b
    cases a.int_inv
    refine ⟨n, rfl, by omega, by omega, ?_⟩
    refine r (Itr 0 n.toNat) H1 _ _ e1 j1 walk_range (fun W2 H2 c e2 => trivial) fun W2 i H2 x H3 c hi e2 j2 y => ?_
    obtain ⟨rfl, rfl⟩ := y
    exact ⟨.refl _, j2, .int (i : Nat), by
      show D W2 H3 (V.int (0 + (i : Nat))) _
      rw [Int.zero_add]
      exact .int _, rfl⟩
theorem i_rng2 {lo hi : Int} {tr : TA} (h : EA K T tr G (· = [.dat (.int lo), .dat (.int hi)])) (hn : -100000 ≤ lo ∧ lo ≤ 100000 ∧ -100000 ≤ hi ∧ hi ≤ 100000) : Iw K T (iRng2 tr) G (hi - lo).toNat (fun i d => d = .int (lo + (i : Nat))) := fun W σ H s j R r => h W σ H s j _ fun vs os H1 e1 j1 dv p => by
  subst p
  have a := all_of (ds := [.int lo, .int hi]) dv
  cases a with
  | cons a b =>
    cases b with
    | cons b c =>
      cases c
      cases a.int_inv
      cases b.int_inv
      refine ⟨lo, hi, rfl, ⟨by omega, by omega, by omega, by omega⟩, ?_⟩
      refine r (Itr lo (hi - lo).toNat) H1 _ _ e1 j1 walk_range (fun W2 H2 c e2 => trivial) fun W2 i H2 x H3 c hi e2 j2 y => ?_
      obtain ⟨rfl, rfl⟩ := y
      exact ⟨.refl _, j2, .int (lo + (i : Nat)), .int _, rfl⟩
theorem i_enum {K' : PySem.W.Frag} {ds : List PyData} {tr : TA} (h : EA K T tr G (· = [.dat (.list ds)])) : Iw K T (iEnum K' tr) G ds.length (fun i d => ∃ x, ds[i]? = some x ∧ d = .tuple [.int (i : Nat), x]) := fun W σ H s j R r => h W σ H s j _ fun vs os H1 e1 j1 dv p => by
  subst p
  have a := all_of (ds := [.list ds]) dv
  cases a with
  | cons dz b =>
    cases b
    obtain ⟨a, xs, rfl, nx, ha, al⟩ := dz.lst_inv
    have hl := al.length
    refine ⟨a, xs, rfl, SqL.of ha, ?_⟩
    have w := walk_enum (K := K') (a := a) (xs := xs)
    rw [hl] at w
    refine r (Ite K' a) H1 _ _ e1 j1 w (fun W2 H2 c e2 => ?_) fun W2 i H2 x H3 c hi e2 j2 y => ?_
    · obtain ⟨a', xs', ea, nx', ha', al'⟩ := (c _ _ dz).lst_inv
      cases ea
      rw [ha] at ha'; cases ha'
      exact SqL.of (e2.k _ _ ha (fun _ z => by cases z) nx')
    · obtain ⟨Tp, x1, x2, rfl, hT, rfl, h1, h2⟩ := y
      cases h1
      obtain ⟨a', xs', ea, nx', ha', al'⟩ := (c _ _ dz).lst_inv
      cases ea
      rw [ha] at ha'; cases ha'
      obtain ⟨d, h3, h4⟩ := al'.getV h2
      exact ⟨.new hT, j_new j2 hT, .tuple [.int (i : Nat), d], .tup (new_ne j2 hT) upd_same (.cons (.int _) (.cons ((h4.mono e2).mono (.new hT)) .nil)), d, h3, rfl⟩
theorem i_zipT {K' : PySem.W.Frag} {ds es : List PyData} {tr : TA} (h : EA K T tr G (· = [.dat (.tuple ds), .dat (.tuple es)])) (hlen : ds.length = es.length) :
    Iw K T (RZ.iZipA K' tr) G ds.length (fun i d => ∃ x y, ds[i]? = some x ∧ es[i]? = some y ∧ d = .tuple [x, y]) := fun W σ H s j R r => h W σ H s j _ fun vs os H1 e1 j1 dv p => by
  subst p
  have a := all_of (ds := [.tuple ds, .tuple es]) dv
  cases a with
  | cons dz b =>
    cases b with
    | cons dw b =>
      cases b
      obtain ⟨a, xs, rfl, nx, ha, al⟩ := dz.tup_inv
      obtain ⟨b, ys, rfl, ny, hb, bl⟩ := dw.tup_inv
      have hl := al.length
      have hl2 := bl.length
      refine ⟨a, b, xs, ys, rfl, .inr ⟨SqT.of ha, SqT.of hb, ?_⟩⟩
      refine r (RZ.ItzT K' a b) H1 (fun H => SqT K' H a xs ∧ SqT K' H b ys) (YPair (fun i => xs[i]?) (fun i => ys[i]?)) e1 j1 ⟨fun i H hi q => ?_, fun H q => ⟨xs, ys, q.1, q.2, .inl (by omega)⟩, fun i H v H' hi q y => ?_⟩ (fun W2 H2 c e2 => ?_) fun W2 i H2 x H3 c hi e2 j2 y => ?_
      · exact ⟨xs, ys, xs[i]'(by omega), ys[i]'(by omega), q.1, q.2, List.getElem?_eq_getElem _, List.getElem?_eq_getElem _⟩
      · obtain ⟨T0, x, z, h1, h2, h3, h4, h5⟩ := y
        exact ⟨T0, x, z, h1, h2, h3, h4 xs q.1, h5 ys q.2⟩
      · obtain ⟨a', xs', ea, nx', ha', al'⟩ := (c _ _ dz).tup_inv
        cases ea
        rw [ha] at ha'; cases ha'
        obtain ⟨b', ys', eb, ny', hb', bl'⟩ := (c _ _ dw).tup_inv
        cases eb
        rw [hb] at hb'; cases hb'
        exact ⟨SqT.of (e2.k _ _ ha (fun _ z => by cases z) nx'), SqT.of (e2.k _ _ hb (fun _ z => by cases z) ny')⟩
      · obtain ⟨Tp, x1, x2, rfl, hT, rfl, h1, h2⟩ := y
        obtain ⟨a', xs', ea, nx', ha', al'⟩ := (c _ _ dz).tup_inv
        cases ea
        rw [ha] at ha'; cases ha'
        obtain ⟨b', ys', eb, ny', hb', bl'⟩ := (c _ _ dw).tup_inv
        cases eb
        rw [hb] at hb'; cases hb'
        obtain ⟨d, h3, h4⟩ := al'.getV h1
        obtain ⟨e, h5, h6⟩ := bl'.getV h2
        exact ⟨.new hT, j_new j2 hT, .tuple [d, e], .tup (new_ne j2 hT) upd_same (.cons ((h4.mono e2).mono (.new hT)) (.cons ((h6.mono e2).mono (.new hT)) .nil)), d, e, h3, h5, rfl⟩
/-! ### targets -/
def Tg (K : PySem.W.Frag) (T : List (Addr × Str)) (g : TG) (vs : List Nat) (d : PyData) (G G' : Ctx) : Prop := ∀ (W : Wd K T) (σ : L2.St) (H : Hp) (x : V), Sl W H σ G → D W H x d → ∀ Q : L2.St → Hp → Prop, (∀ σ', Sl W H σ' G' → σ'.length = σ.length → (∀ k, k ∉ vs → σ'[k]? = σ[k]?) → Q σ' H) → g x σ H Q
theorem tg_name {i : Nat} {d : PyData} {vs : List Nat} (hi : i ∈ vs) : Tg K T (gName i) vs d G (G.set i (some (.dat d))) := fun W σ H x s dx Q q =>
  q _ (s.set (.dat dx)) (by simp) fun k hk => List.getElem?_set_ne (fun z => hk (by rw [← z]; exact hi))
theorem tg_pair {K' : PySem.W.Frag} {i i2 : Nat} {d e : PyData} {vs : List Nat} (hi : i ∈ vs) (hi2 : i2 ∈ vs) : Tg K T (gTup K' 2 (gCons (gName i) (gCons (gName i2) gNil))) vs (.tuple [d, e]) G ((G.set i (some (.dat d))).set i2 (some (.dat e))) := fun W σ H x s dx Q q => by
  obtain ⟨a, xs, rfl, nx, ha, al⟩ := dx.tup_inv
  cases al with
  | cons a1 al =>
    cases al with
    | cons a2 al =>
      cases al
      refine ⟨a, _, rfl, SqT.of ha, rfl, _, _, rfl, _, _, rfl, rfl, ?_⟩
      refine q _ ((s.set (.dat a1)).set (.dat a2)) (by simp) fun k hk => ?_
      rw [List.getElem?_set_ne (fun z => hk (by rw [← z]; exact hi2)), List.getElem?_set_ne (fun z => hk (by rw [← z]; exact hi))]
/-! ### comprehensions -/
/-- W, the new list at p taken out -/
def Wd.hide (W : Wd K T) (p : Addr) (hp : ¬ W.X p) (ys : List V) : Wd K T where
  r := W.r
  X := fun a => W.X a ∨ a = p
  J := fun H => W.J H ∧ H p = some (.lst ys)
  ju := fun {H q o} j h n => ⟨W.ju j.1 h fun z => n (.inl z), by
    have e : p ≠ q := fun z => n (.inr z.symm)
    rw [upd_ne e]
    exact j.2⟩
  jx := fun {H a} j x => by
    rcases x with x | rfl
    · exact W.jx j.1 x
    · rw [j.2]
      simp
  jt := fun {H H1} j e t => ⟨W.jt j.1 e t, e _ _ j.2 fun _ w => by cases w⟩
  jT := fun {H} j => W.jT j.1
  rx := fun {a} e => .inl (W.rx e)
  row := fun {H a} j e => W.row j.1 e
  jw := fun {H a sc i c m i' c' m'} j e h h1 h2 h3 => ⟨W.jw j.1 e h h1 h2 h3, by
    have n : p ≠ a := fun z => hp (by rw [z]; exact W.rx e)
    rw [upd_ne n]
    exact j.2⟩
section
variable {p : Addr} {hp : ¬ W.X p} {ys zs : List V} {H H' H1 : Hp}
theorem hide_out (n : H p = none) : ∀ a o, H a = some o → ¬ W.X a → ¬ (W.hide p hp ys).X a := fun a o e h z => by
  rcases z with z | rfl
  · exact h z
  · rw [n] at e
    cases e
theorem hide_ex (n : H1 p = none) (e : Ex (W.hide p hp ys) H1 H') : Ex W H1 H' := ⟨fun a o h t x => e.k a o h t (hide_out (hp := hp) (ys := ys) n a o h x)⟩
theorem ex_hide (e : Ex W H H') : Ex (W.hide p hp ys) H H' := ⟨fun a o h t x => e.k a o h t fun z => x (.inl z)⟩
theorem hide_all {vs : List V} {ds : List PyData} (h : DAll (W.hide p hp ys) H vs ds) : DAll (W.hide p hp zs) H vs ds := DAll.to (W := W.hide p hp ys) (W2 := W.hide p hp zs) (fun _ _ _ n => n) h
end
theorem el_lc {wi : TI} {g : TG} {vs : List Nat} {n : Nat} {yd : Nat → PyData → Prop} (I : Nat → List PyData → Prop) (hi : Iw K T wi G n yd) (h0 : I 0 [])
    (hs : ∀ i d acc, i < n → yd i d → I i acc → ∃ G', Tg K T g vs d (wipeG G vs) G' ∧ ∃ Pb : Bool → Prop, ET K T tt G' Pb ∧ (Pb false → I (i + 1) acc) ∧ (Pb true → ∃ P, E K T te G' P ∧ ∀ y, P y → I (i + 1) (acc ++ [y])))
    (hn : n ≤ 100000) : EL K T (tLc wi g tt te vs) G (I n) := fun W σ H s j Q q => hi W σ H s j _ fun J' H1 Gd Y e1 j1 w hG hY Dl hD => by
  have hp : ¬ W.X Dl := new_ne j1 hD
  refine lc_it w (fun i H' => ∃ xs acc, Ex W H1 H' ∧ W.J H' ∧ H' Dl = some (.lst xs) ∧ DAll (W.hide Dl hp xs) H' xs acc ∧ I i acc ∧ xs.length ≤ i)
    ⟨[], [], .new hD, j_new j1 hD, upd_same, .nil, h0, Nat.le_refl _⟩ (fun i H' _ ⟨xs, acc, e, _⟩ => hG W H' (.refl _) e) (fun i x H' H2 hin ⟨xs, acc, e, j2, hl, al, hI, hlen⟩ y => ?_) fun H' ⟨xs, acc, e, j2, hl, al, hI, hlen⟩ => ?_
  · have cp : Cp W (W.hide Dl hp xs) H1 := fun v d h => h.to (hide_out hD)
    have s1 : Sl (W.hide Dl hp xs) H1 σ G := (s.mono e1).to (hide_out hD) rfl
    obtain ⟨e3, j3, d, dx, yx⟩ := hY (W.hide Dl hp xs) i H' x H2 cp hin (ex_hide e) ⟨j2, hl⟩ y
    obtain ⟨G', tg, Pb, ht, hno, hyes⟩ := hs i d acc hin yx hI
    refine tg (W.hide Dl hp xs) (L2.wipe σ vs) H2 x ((s1.mono ((ex_hide e).trans e3)).wipe vs) dx _ fun σ' s' hl' hk => ⟨(wipe_same hl' hk).trans wipe_wipe, ht _ σ' H2 s' j3 _ fun b H3 e4 j4 pb => ?_⟩
    cases b with
    | false =>
      exact iteF ⟨xs, acc, hide_ex hD (((ex_hide e).trans e3).trans e4), j4.1, j4.2, (al.mono e3).mono e4, hno pb, by omega⟩
    | true =>
      refine iteT ?_
      obtain ⟨P, he, hk2⟩ := hyes pb
      refine he _ σ' H3 (s'.mono e4) j4 _ fun yv dy H4 e5 j5 dyv py => ⟨xs, j5.2, Nat.lt_of_le_of_lt (show xs.length ≤ 100000 by omega) (by decide), xs ++ [yv], acc ++ [dy], ?_, W.ju j5.1 (.inr (.inl ⟨xs, j5.2⟩)) hp, upd_same, ?_, hk2 dy py, ?_⟩
      · exact Ex.mut (.refl H1) hD (hide_ex hD ((((ex_hide e).trans e3).trans e4).trans e5))
      · refine hide_all (ys := xs) (DAll.mono (Ex.out (Ex.refl _) (show (W.hide Dl hp xs).X Dl from Or.inr rfl)) ?_)
        exact (((al.mono e3).mono e4).mono e5).append (.one dyv)
      · rw [List.length_append, List.length_singleton]; omega
  · exact q Dl xs acc H' ⟨H1, e1, hD, e⟩ j2 hp hl (al.to (W2 := W) fun _ _ _ n z => n (Or.inl z)) hI
theorem filter_take {ds : List PyData} {i : Nat} {d : PyData} (h : ds[i]? = some d) (f : PyData → Bool) (v : PyData → PyData) : ((ds.take (i + 1)).filter f).map v = ((ds.take i).filter f).map v ++ (if f d = true then [v d] else []) := by
  rw [List.take_add_one, h, List.filter_append, List.map_append]
  congr 1
  show ([d].filter f).map v = _
  by_cases hf : f d = true
  · rw [if_pos hf, List.filter_cons, if_pos hf]; rfl
  · rw [if_neg hf, List.filter_cons, if_neg hf]; rfl
/-- the i-th walked is the i-th of ds -/
abbrev Iwd (K : PySem.W.Frag) (T : List (Addr × Str)) (wi : TI) (G : Ctx) (ds : List PyData) : Prop := Iw K T wi G ds.length (fun i d => ds[i]? = some d)
theorem el_lcD {wi : TI} {g : TG} {vs : List Nat} {ds : List PyData} (f : PyData → Bool) (v : PyData → PyData) (hi : Iwd K T wi G ds)
    (hs : ∀ d ∈ ds, ∃ G', Tg K T g vs d (wipeG G vs) G' ∧ ET K T tt G' (· = f d) ∧ (f d = true → E K T te G' (· = v d))) (hn : ds.length ≤ 100000) : EL K T (tLc wi g tt te vs) G (· = (ds.filter f).map v) :=
  (el_lc (fun i acc => acc = ((ds.take i).filter f).map v) hi (by simp) (fun i d acc hi hd hI => by
    obtain ⟨G', h1, h2, h3⟩ := hs d (List.mem_of_getElem? hd)
    refine ⟨G', h1, _, h2, fun hf => ?_, fun hf => ⟨_, h3 hf.symm, fun y hy => ?_⟩⟩
    · rw [hI, filter_take hd, if_neg (by rw [← hf]; decide), List.append_nil]
    · rw [hI, hy, filter_take hd, if_pos hf.symm]) hn).imp fun d h => by rw [h, List.take_length]
/-- without a test -/
theorem el_lcM {wi : TI} {g : TG} {vs : List Nat} {ds : List PyData} (v : PyData → PyData) (hi : Iwd K T wi G ds)
    (hs : ∀ d ∈ ds, ∃ G', Tg K T g vs d (wipeG G vs) G' ∧ E K T te G' (· = v d)) (hn : ds.length ≤ 100000) : EL K T (tLc wi g tYes te vs) G (· = ds.map v) :=
  (el_lcD (fun _ => true) v hi (fun d hd => by
    obtain ⟨G', h1, h2⟩ := hs d hd
    exact ⟨G', h1, t_yes, fun _ => h2⟩) hn).imp fun d h => by rw [h, List.filter_eq_self.mpr fun _ _ => rfl]
/-- range(n) as data -/
def rng (n : Nat) : List PyData := (List.range n).map fun (i : Nat) => .int i
theorem rng_length (n : Nat) : (rng n).length = n := by simp [rng]
theorem rng_get {n i : Nat} (h : i < n) : (rng n)[i]? = some (.int i) := by simp [rng, h]
theorem mem_rng {n : Nat} {d : PyData} (h : d ∈ rng n) : ∃ i : Nat, i < n ∧ d = .int i := by
  obtain ⟨i, hi, e⟩ := List.mem_map.mp h
  exact ⟨i, List.mem_range.mp hi, e.symm⟩
theorem i_rngN {n : Nat} {tr : TA} (h : EA K T tr G (· = [.dat (.int n)])) (hn : n ≤ 100000) : Iwd K T (iRng1 tr) G (rng n) := by
  have q := i_rng1 h ⟨by omega, by omega⟩
  rw [Int.toNat_natCast] at q
  unfold Iwd
  rw [rng_length]
  exact q.imp fun k d hk e => by rw [rng_get hk, e]
/-- enumerate as data -/
def enumD (ds : List PyData) : List PyData := ds.zipIdx.map fun p => .tuple [.int p.2, p.1]
theorem enumD_length (ds : List PyData) : (enumD ds).length = ds.length := by simp [enumD]
theorem i_enumD {K' : PySem.W.Frag} {ds : List PyData} {tr : TA} (h : EA K T tr G (· = [.dat (.list ds)])) : Iwd K T (iEnum K' tr) G (enumD ds) := by
  unfold Iwd
  rw [enumD_length]
  refine (i_enum h).imp fun k d hk ⟨x, e1, e2⟩ => ?_
  rw [e2]
  simp [enumD, e1]
def zipD (ds es : List PyData) : List PyData := (ds.zip es).map fun p => .tuple [p.1, p.2]
theorem i_zipD {K' : PySem.W.Frag} {ds es : List PyData} {tr : TA} (h : EA K T tr G (· = [.dat (.tuple ds), .dat (.tuple es)])) (hlen : ds.length = es.length) : Iwd K T (RZ.iZipA K' tr) G (zipD ds es) := by
  unfold Iwd
  have hl : (zipD ds es).length = ds.length := by simp [zipD, hlen]
  rw [hl]
  refine (i_zipT h hlen).imp fun k d hk ⟨x, y, e1, e2, e3⟩ => ?_
  rw [e3]
  simp [zipD, List.zip, List.getElem?_zipWith, e1, e2]
/-! ### calls of built-ins -/
abbrev rLenQ (K : PySem.W.Frag) : List V → Hp → VK → Prop := fun xs H Q => ∃ p ys, xs = [.ref p] ∧ (SqL K H p ys ∨ SqT K H p ys) ∧ Q (.int ys.length) H
abbrev rTupQ (K : PySem.W.Frag) : List V → Hp → VK → Prop := fun xs H Q => ∃ p ys, xs = [.ref p] ∧ ((SqL K H p ys ∧ ∀ l, H l = none → Q (.ref l) (upd H l (.tup ys))) ∨ (SqT K H p ys ∧ Q (.ref p) H))
abbrev rLstQ (K : PySem.W.Frag) : List V → Hp → VK → Prop := fun xs H Q => ∃ p ys, xs = [.ref p] ∧ (SqL K H p ys ∨ SqT K H p ys) ∧ ∀ l, H l = none → Q (.ref l) (upd H l (.lst ys))
abbrev rIntQ : List V → Hp → VK → Prop := fun xs H Q => (∃ i, xs = [.int i] ∧ Q (.int i) H) ∨ ∃ k, xs = [.bl k] ∧ Q (.int (if k then 1 else 0)) H
theorem e_cb {r : List V → Hp → VK → Prop} {tr : TA} {os : List Ob} {P : PyData → Prop} (h : EA K T tr G (· = os))
    (hr : ∀ (W : Wd K T) (H : Hp) (vs : List V), W.J H → Paired (OD W H) vs os → ∀ Q : VK, (∀ v d H', Ex W H H' → W.J H' → D W H' v d → P d → Q v H') → r vs H Q) : E K T (tCB r tr) G P := fun W σ H s j Q q => h W σ H s j _ fun vs os' H1 e1 j1 dv p => by
  subst p
  exact hr W H1 vs j1 dv Q fun v d H2 e2 j2 dv' p => q v d H2 (e1.trans e2) j2 dv' p
theorem one_of {H : Hp} {vs : List V} {d : PyData} (h : Paired (OD W H) vs [.dat d]) : ∃ v, vs = [v] ∧ D W H v d := by
  cases h with
  | cons a b =>
    cases b
    cases a with
    | dat a => exact ⟨_, rfl, a⟩
theorem e_len {K' : PySem.W.Frag} {tr : TA} {d : PyData} {ds : List PyData} (h : EA K T tr G (· = [.dat d])) (hd : d = .list ds ∨ d = .tuple ds) :
    E K T (tCB (rLenQ K') tr) G (· = .int ds.length) := e_cb h fun W H vs j dv Q q => by
  obtain ⟨v, rfl, dw⟩ := one_of dv
  rcases hd with rfl | rfl
  · obtain ⟨a, xs, rfl, nx, ha, al⟩ := dw.lst_inv
    exact ⟨a, xs, rfl, .inl (SqL.of ha), q _ _ H (.refl H) j (.int _) (by rw [al.length])⟩
  · obtain ⟨a, xs, rfl, nx, ha, al⟩ := dw.tup_inv
    exact ⟨a, xs, rfl, .inr (SqT.of ha), q _ _ H (.refl H) j (.int _) (by rw [al.length])⟩
/-- tuple(list) -/
theorem e_tupleL {K' : PySem.W.Frag} {tr : TA} {ds : List PyData} (h : EA K T tr G (· = [.dat (.list ds)])) :
    E K T (tCB (rTupQ K') tr) G (· = .tuple ds) := e_cb h fun W H vs j dv Q q => by
  obtain ⟨v, rfl, dw⟩ := one_of dv
  obtain ⟨a, xs, rfl, nx, ha, al⟩ := dw.lst_inv
  exact ⟨a, xs, rfl, .inl ⟨SqL.of ha, fun l hl => q _ _ _ (.new hl) (j_new j hl) (.tup (new_ne j hl) upd_same (al.mono (.new hl))) rfl⟩⟩
theorem bools_of {H : Hp} : ∀ {bs : List Bool} {xs : List V}, DAll W H xs (bs.map .bool) → xs = bs.map V.bl
  | [], _, .nil => rfl
  | b :: bs, _, .cons a t => by rw [a.bool_inv, bools_of t]; rfl
theorem ints_of {H : Hp} : ∀ {bs : List Int} {xs : List V}, DAll W H xs (bs.map .int) → xs = bs.map V.int
  | [], _, .nil => rfl
  | b :: bs, _, .cons a t => by rw [a.int_inv, ints_of t]; rfl
theorem e_any {K' : PySem.W.Frag} {tr : TA} {bs : List Bool} (h : EA K T tr G (· = [.dat (.list (bs.map .bool))])) : E K T (tCB (rAny K') tr) G (· = .bool (bs.any id)) := e_cb h fun W H vs j dv Q q => by
  obtain ⟨v, rfl, dw⟩ := one_of dv
  obtain ⟨a, xs, rfl, nx, ha, al⟩ := dw.lst_inv
  have e := bools_of al
  subst e
  exact ⟨a, bs, rfl, SqL.of ha, q _ _ H (.refl H) j (.bl _) rfl⟩
theorem e_sum {K' : PySem.W.Frag} {tr : TA} {ns : List Int} (h : EA K T tr G (· = [.dat (.list (ns.map .int))])) : E K T (tCB (rSum K') tr) G (· = .int ns.sum) := e_cb h fun W H vs j dv Q q => by
  obtain ⟨v, rfl, dw⟩ := one_of dv
  obtain ⟨a, xs, rfl, nx, ha, al⟩ := dw.lst_inv
  have e := ints_of al
  subst e
  exact ⟨a, ns, rfl, SqL.of ha, q _ _ H (.refl H) j (.int _) rfl⟩
/-- int(bool) -/
theorem e_intB {tr : TA} {b : Bool} (h : EA K T tr G (· = [.dat (.bool b)])) : E K T (tCB rIntQ tr) G (· = .int (if b then 1 else 0)) := e_cb h fun W H vs j dv Q q => by
  obtain ⟨v, rfl, dw⟩ := one_of dv
  cases dw.bool_inv
  exact .inr ⟨b, rfl, q _ _ H (.refl H) j (.int _) rfl⟩
/-! ### in -/
def flatD : PyData → Bool
  | .none => true | .bool _ => true | .int _ => true | .str _ => true | _ => false
theorem flat_of {H : Hp} {v : V} {d : PyData} (h : D W H v d) (f : flatD d = true) : flatV v = true ∧ ∀ (w : V) (e : PyData), D W H w e → flatD e = true → eqV w v = PyData.eqv e d := by
  cases h <;> first
    | (refine ⟨rfl, fun w e h2 f2 => ?_⟩
       cases h2 <;> first
         | (simp [eqV, PyData.eqv]; done)
         | (exact absurd f2 Bool.false_ne_true))
    | (exact absurd f Bool.false_ne_true)
end
end Dv
namespace Dv
open PySem PySem.Spec L2
open PyProof.Rows hiding St
section
variable {K : PySem.W.Frag} {T : List (Addr × Str)} {W W2 : Wd K T} {G G' : Ctx} {ta tb tc te : TE} {tt : TT}
/-! ### in, subscripts, +, isinstance -/
theorem inV_of {H : Hp} {v : V} {d : PyData} (hv : D W H v d) (f : flatD d = true) : ∀ {xs : List V} {ds : List PyData}, DAll W H xs ds → ds.all flatD = true → xs.all flatV = true ∧ inV v xs = ds.any fun z => PyData.eqv z d
  | _, _, .nil, _ => ⟨rfl, rfl⟩
  | x :: xs, e :: es, .cons a t, h => by
    rw [List.all_cons, Bool.and_eq_true] at h
    obtain ⟨h1, h2⟩ := inV_of hv f t h.2
    refine ⟨by rw [List.all_cons, h1, (flat_of a h.1).1]; rfl, ?_⟩
    unfold inV at h2 ⊢
    rw [List.any_cons, List.any_cons, h2, (flat_of hv f).2 x e a h.1]
theorem e_inSeq {K' : PySem.W.Frag} {neg : Bool} {d s : PyData} {ds : List PyData} (ha : E K T ta G (· = d)) (hb : E K T tb G (· = s)) (hs : s = .list ds ∨ s = .tuple ds) (f : flatD d = true) (fs : ds.all flatD = true) :
    E K T (tOp (rIn K' neg) ta tb) G (· = .bool (if neg then !ds.any fun z => PyData.eqv z d else ds.any fun z => PyData.eqv z d)) := e_op ha hb fun W H x y d' e' jh dx dy px py Q q => by
  subst px py
  rcases hs with rfl | rfl
  · obtain ⟨a, xs, rfl, nx, ha, al⟩ := dy.lst_inv
    obtain ⟨h1, h2⟩ := inV_of dx f al fs
    refine ⟨a, xs, rfl, .inl (SqL.of ha), (flat_of dx f).1, h1, ?_⟩
    rw [h2]
    exact q _ _ H (.refl H) jh (.bl _) rfl
  · obtain ⟨a, xs, rfl, nx, ha, al⟩ := dy.tup_inv
    obtain ⟨h1, h2⟩ := inV_of dx f al fs
    refine ⟨a, xs, rfl, .inr (SqT.of ha), (flat_of dx f).1, h1, ?_⟩
    rw [h2]
    exact q _ _ H (.refl H) jh (.bl _) rfl
theorem e_ixL {K' : PySem.W.Frag} {ds : List PyData} {i : Nat} {d : PyData} (ha : E K T ta G (· = .list ds)) (hb : E K T tb G (· = .int i)) (h : ds[i]? = some d) : E K T (tOp (rIxL K') ta tb) G (· = d) := e_op ha hb fun W H x y d' e' jh dx dy px py Q q => by
  subst px py
  obtain ⟨a, xs, rfl, nx, ha, al⟩ := dx.lst_inv
  cases dy.int_inv
  obtain ⟨v, h1, h2⟩ := al.get h
  exact ⟨a, xs, i, v, rfl, rfl, SqL.of ha, atI_nat h1, q _ _ H (.refl H) jh h2 rfl⟩
/-- one of a list, at a place that is not told -/
theorem e_ixLP {K' : PySem.W.Frag} {ds : List PyData} {P : PyData → Prop} (ha : E K T ta G (· = .list ds)) (hb : E K T tb G (fun d => ∃ i : Nat, i < ds.length ∧ d = .int i)) (hP : ∀ d ∈ ds, P d) : E K T (tOp (rIxL K') ta tb) G P := e_op ha hb fun W H x y d' e' jh dx dy px py Q q => by
  subst px
  obtain ⟨i, hi, rfl⟩ := py
  obtain ⟨a, xs, rfl, nx, ha, al⟩ := dx.lst_inv
  cases dy.int_inv
  obtain ⟨v, h1, h2⟩ := al.get (List.getElem?_eq_getElem hi)
  exact ⟨a, xs, i, v, rfl, rfl, SqL.of ha, atI_nat h1, q _ _ H (.refl H) jh h2 (hP _ (List.getElem_mem hi))⟩
theorem e_ixT {K' : PySem.W.Frag} {ds : List PyData} {i : Nat} {d : PyData} (ha : E K T ta G (· = .tuple ds)) (hb : E K T tb G (· = .int i)) (h : ds[i]? = some d) : E K T (tOp (rIxT K') ta tb) G (· = d) := e_op ha hb fun W H x y d' e' jh dx dy px py Q q => by
  subst px py
  obtain ⟨a, xs, rfl, nx, ha, al⟩ := dx.tup_inv
  cases dy.int_inv
  obtain ⟨v, h1, h2⟩ := al.get h
  exact ⟨a, xs, i, v, rfl, rfl, SqT.of ha, atI_nat h1, q _ _ H (.refl H) jh h2 rfl⟩
/-- tuple + tuple -/
theorem e_catT {K' : PySem.W.Frag} {ds es : List PyData} (ha : E K T ta G (· = .tuple ds)) (hb : E K T tb G (· = .tuple es)) (hl : ds.length + es.length ≤ 100000) : E K T (tOp (rCatA K') ta tb) G (· = .tuple (ds ++ es)) := e_op ha hb fun W H x y d' e' jh dx dy px py Q q => by
  subst px py
  obtain ⟨a, xs, rfl, nx, ha, al⟩ := dx.tup_inv
  obtain ⟨b, ys, rfl, ny, hb, bl⟩ := dy.tup_inv
  refine ⟨a, b, xs, ys, rfl, rfl, SqT.of ha, SqT.of hb, Nat.le_trans (by rw [al.length, bl.length]; exact hl) (by decide), fun e => ?_, fun _ e => ?_, fun _ _ p hp => ?_⟩
  · refine q _ _ H (.refl H) jh (.tup ny hb bl) ?_
    rw [(al.nil_iff).mp e, List.nil_append]
  · refine q _ _ H (.refl H) jh (.tup nx ha al) ?_
    rw [(bl.nil_iff).mp e, List.append_nil]
  · exact q _ _ _ (.new hp) (j_new jh hp) (.tup (new_ne jh hp) upd_same ((al.append bl).mono (.new hp))) rfl
/-- list + list -/
theorem el_cat {ds es : List PyData} (ha : E K T ta G (· = .list ds)) (hb : E K T tb G (· = .list es)) (hl : ds.length + es.length ≤ 100000) : EL K T (tOp rCat ta tb) G (· = ds ++ es) := fun W σ H s j Q q =>
  ha W σ H s j _ fun x d H1 e1 j1 dx px => hb W σ H1 (s.mono e1) j1 _ fun y e H2 e2 j2 dy py => by
    subst px py
    obtain ⟨a, xs, rfl, nx, ha, al⟩ := (dx.mono e2).lst_inv
    obtain ⟨b, ys, rfl, ny, hb, bl⟩ := dy.lst_inv
    exact ⟨a, b, xs, ys, rfl, rfl, ha, hb, Nat.le_trans (by rw [al.length, bl.length]; exact hl) (by decide), fun p hp => q p _ _ _ ((Fr.new hp).pre (e1.trans e2)) (j_new j2 hp) (new_ne j2 hp) upd_same ((al.append bl).mono (.new hp)) rfl⟩
/-- the type of data, as isinstance asks it -/
def tyD : PyData → String
  | .none => "NoneType" | .bool _ => "bool" | .int _ => "int" | .str _ => "str" | .list _ => "list" | .tuple _ => "tuple" | .dict _ => "dict"
theorem ty_of {K' : PySem.W.Frag} {H : Hp} {v : V} {d : PyData} (h : D W H v d) : TyX K' H v (.type (tyD d)) := by
  cases h with
  | non => exact .base .non
  | bl b => exact .base (.bl b)
  | int i => exact .base (.int i)
  | str x => exact .base (.str x)
  | lst _ h _ => exact .base (.lst h)
  | tup _ h _ => exact .base (.tup h)
/-- isinstance(x, T): te2 the class by its name -/
theorem e_isi {K' : PySem.W.Frag} {n : String} {d : PyData} {b : Bool} (h : E K T te G (· = d)) (hb : kitB (tyD d) n = some b) : E K T (tCB (rIsi K') (tCons te (tCons (tC (.ty n)) tNil))) G (· = .bool b) := fun W σ H s j Q q => h W σ H s j _ fun x e H1 e1 j1 dx px => by
  subst px
  exact ⟨x, .ty n, _, _, b, rfl, .ty n, ty_of dx, kit_ty hb, q _ _ H1 e1 j1 (.bl b) rfl⟩
/-- isinstance(x, (S, T)) -/
theorem e_isi2 {K' : PySem.W.Frag} {n m : String} {d : PyData} {b c : Bool} (h : E K T te G (· = d)) (hb : kitB (tyD d) n = some b) (hc : kitB (tyD d) m = some c) :
    E K T (tCB (rIsiT K') (tCons te (tCons (tTup (tCons (tC (.ty n)) (tCons (tC (.ty m)) tNil))) tNil))) G (· = .bool (b || c)) := fun W σ H s j Q q => h W σ H s j _ fun x e H1 e1 j1 dx px => by
  subst px
  refine ⟨(by show 2 ≤ sizeLine; decide), fun p hp => ?_⟩
  refine ⟨x, p, [.ty n, .ty m], _, [.type n, .type m], b || c, rfl, upd_same, .cons (.ty n) (.cons (.ty m) .nil), ty_of (dx.mono (.new hp)), ?_, q _ _ _ (e1.trans (.new hp)) (j_new j1 hp) (.bl _) rfl⟩
  refine kitAny_cons (kit_ty hb) (fun e => ?_) (fun e => by rw [e]; rfl)
  refine kitAny_cons (kit_ty hc) (fun e2 => ?_) (fun e2 => by rw [e, e2]; rfl)
  rw [e, e2]
  exact kitAny_nil
/-! ### statements -/
structure EndG where
  nx : Ctx → Prop := fun _ => False
  rt : PyData → Prop := fun _ => False
  rl : List PyData → Prop := fun _ => False
  bk : Ctx → Prop := fun _ => False
  ct : Ctx → Prop := fun _ => False
/-- what is wanted of the slots is met by what is wanted of their data -/
structure Ok (W : Wd K T) (D' : Ends) (F : EndG) (H : Hp) : Prop where
  nx : ∀ σ' H' G', Ex W H H' → W.J H' → Sl W H' σ' G' → F.nx G' → D'.nx σ' H'
  rt : ∀ v d H', Ex W H H' → W.J H' → D W H' v d → F.rt d → D'.rt v H'
  rl : ∀ p xs ds H', Fr W H p H' → W.J H' → ¬ W.X p → H' p = some (.lst xs) → DAll W H' xs ds → F.rl ds → D'.rt (.ref p) H'
  bk : ∀ σ' H' G', Ex W H H' → W.J H' → Sl W H' σ' G' → F.bk G' → D'.bk σ' H'
  ct : ∀ σ' H' G', Ex W H H' → W.J H' → Sl W H' σ' G' → F.ct G' → D'.ct σ' H'
theorem Ok.mono {D' : Ends} {F : EndG} {H H' : Hp} (h : Ok W D' F H) (e : Ex W H H') : Ok W D' F H' := ⟨fun σ H2 G e2 => h.nx σ H2 G (e.trans e2), fun v d H2 e2 => h.rt v d H2 (e.trans e2), fun p xs ds H2 f => h.rl p xs ds H2 (f.pre e), fun σ H2 G e2 => h.bk σ H2 G (e.trans e2), fun σ H2 G e2 => h.ct σ H2 G (e.trans e2)⟩
/-- the statement, from slots of which G tells, comes to F -/
def S (K : PySem.W.Frag) (T : List (Addr × Str)) (t : TS) (G : Ctx) (F : EndG) : Prop := ∀ (W : Wd K T) (D' : Ends) (σ : L2.St) (H : Hp), Sl W H σ G → W.J H → Ok W D' F H → t D' σ H
variable {t u : TS} {F : EndG}
theorem s_next (h : F.nx G) : S K T tNext G F := fun W D' σ H s j k => k.nx σ H G (.refl H) j s h
theorem s_seq (h : S K T t G { F with nx := fun G' => S K T u G' F }) : S K T (tSeq t u) G F := fun W D' σ H s j k => h W { D' with nx := u D' } σ H s j ⟨fun σ' H' G' e j' s' f => f W D' σ' H' s' j' (k.mono e), k.rt, k.rl, k.bk, k.ct⟩
theorem s_asgP {i : Nat} {P : PyData → Prop} (h : E K T te G P) (k : ∀ d, P d → F.nx (G.set i (some (.dat d)))) : S K T (tAsg te (gName i)) G F := fun W D' σ H s j ok => h W σ H s j _ fun v d H1 e1 j1 dv p => ok.nx _ H1 _ e1 j1 ((s.mono e1).set (.dat dv)) (k d p)
theorem s_asg {i : Nat} {d : PyData} (h : E K T te G (· = d)) (k : F.nx (G.set i (some (.dat d)))) : S K T (tAsg te (gName i)) G F := s_asgP h fun d' e => by rw [e]; exact k
theorem s_asgTg {g : TG} {vs : List Nat} {d : PyData} (h : E K T te G (· = d)) (tg : Tg K T g vs d G G') (k : F.nx G') : S K T (tAsg te g) G F := fun W D' σ H s j ok => h W σ H s j _ fun v d H1 e1 j1 dv p => by
  subst p
  exact tg W σ H1 v (s.mono e1) dv _ fun σ' s' _ _ => ok.nx _ H1 _ e1 j1 s' k
theorem s_asgTgP {g : TG} {vs : List Nat} {P : PyData → Prop} (h : E K T te G P) (tg : ∀ d, P d → ∃ G', Tg K T g vs d G G' ∧ F.nx G') : S K T (tAsg te g) G F := fun W D' σ H s j ok => h W σ H s j _ fun v d H1 e1 j1 dv p => by
  obtain ⟨G', tg, k⟩ := tg d p
  exact tg W σ H1 v (s.mono e1) dv _ fun σ' s' _ _ => ok.nx _ H1 _ e1 j1 s' k
/-- a, b = e1, e2 -/
theorem s_parP {i i2 : Nat} {tr : TA} {R : List Ob → Prop} (h : EA K T tr G R) (k : ∀ os, R os → ∃ d e, os = [.dat d, .dat e] ∧ F.nx ((G.set i (some (.dat d))).set i2 (some (.dat e)))) : S K T (tPar i i2 tr) G F := fun W D' σ H s j ok => h W σ H s j _ fun vs os H1 e1 j1 dv p => by
  obtain ⟨d, e, rfl, k⟩ := k os p
  have a := all_of (ds := [d, e]) dv
  cases a with
  | cons a b =>
    cases b with
    | cons b c =>
      cases c
      exact ⟨_, _, rfl, ok.nx _ H1 _ e1 j1 (((s.mono e1).set (.dat a)).set (.dat b)) k⟩
theorem s_retP {P : PyData → Prop} (h : E K T te G P) (k : ∀ d, P d → F.rt d) : S K T (tRet te) G F := fun W D' σ H s j ok => h W σ H s j _ fun v d H1 e1 j1 dv p => ok.rt v d H1 e1 j1 dv (k d p)
theorem s_ret {d : PyData} (h : E K T te G (· = d)) (k : F.rt d) : S K T (tRet te) G F := s_retP h fun d' e => by rw [e]; exact k
theorem s_retL {P : List PyData → Prop} (h : EL K T te G P) (k : ∀ d, P d → F.rl d) : S K T (tRet te) G F := fun W D' σ H s j ok => h W σ H s j _ fun p xs ds H1 f1 j1 n h1 al z => ok.rl p xs ds H1 f1 j1 n h1 al (k ds z)
theorem s_if {b : Bool} (h : ET K T tt G (· = b)) (h1 : b = true → S K T t G F) (h2 : b = false → S K T u G F) : S K T (tIfS tt t u) G F := fun W D' σ H s j ok => h W σ H s j _ fun c H1 e1 j1 p => by
  subst p
  cases c with
  | true => exact iteT (h1 rfl W D' σ H1 (s.mono e1) j1 (ok.mono e1))
  | false => exact iteF (h2 rfl W D' σ H1 (s.mono e1) j1 (ok.mono e1))
theorem s_drop {P : PyData → Prop} (h : E K T te G P) (k : F.nx G) : S K T (tDrop te) G F := fun W D' σ H s j ok => h W σ H s j _ fun v d H1 e1 j1 dv p => ok.nx _ H1 _ e1 j1 (s.mono e1) k
theorem s_for {wi : TI} {g : TG} {vs : List Nat} {n : Nat} {yd : Nat → PyData → Prop} (I : Nat → Ctx → Prop) (hi : Iw K T wi G n yd) (h0 : I 0 G)
    (hs : ∀ i d G', i < n → yd i d → I i G' → ∃ G2, Tg K T g vs d G' G2 ∧ S K T t G2 { F with nx := I (i + 1), ct := I (i + 1), bk := F.nx }) (hd : ∀ G', I n G' → F.nx G') : S K T (tFor wi g t) G F := fun W D' σ H s j ok => hi W σ H s j _ fun J' H1 Gd Y e1 j1 w hG hY => by
  refine for_it w (fun i σ' H' => ∃ G', Ex W H1 H' ∧ W.J H' ∧ Sl W H' σ' G' ∧ I i G') ⟨G, .refl _, j1, s.mono e1, h0⟩ (fun i σ' H' _ ⟨G', e, _⟩ => hG W H' (.refl _) e) (fun i x σ' H' H2 hin ⟨G', e, j2, s2, hI⟩ y => ?_) fun σ' H' ⟨G', e, j2, s2, hI⟩ => ok.nx _ _ _ (e1.trans e) j2 s2 (hd G' hI)
  obtain ⟨e3, j3, d, dx, yx⟩ := hY W i H' x H2 (.refl _) hin e j2 y
  obtain ⟨G2, tg, hb⟩ := hs i d G' hin yx hI
  refine tg W σ' H2 x (s2.mono e3) dx _ fun σ3 s3 _ _ => hb W _ σ3 H2 s3 j3 ?_
  have ee := e1.trans (e.trans e3)
  exact ⟨fun σ4 H4 G4 e4 j4 s4 f => ⟨G4, (e.trans e3).trans e4, j4, s4, f⟩, fun v d H4 e4 => ok.rt v d H4 (ee.trans e4), fun p xs ds H4 f => ok.rl p xs ds H4 (f.pre ee), fun σ4 H4 G4 e4 j4 s4 f => ok.nx σ4 H4 G4 (ee.trans e4) j4 s4 f, fun σ4 H4 G4 e4 j4 s4 f => ⟨G4, (e.trans e3).trans e4, j4, s4, f⟩⟩
theorem s_break (h : F.bk G) : S K T tBreak G F := fun W D' σ H s j k => k.bk σ H G (.refl H) j s h
theorem s_weak {G2 : Ctx} (h : S K T t G2 F) (hl : G2.length = G.length) (w : ∀ (i : Nat) (o : Ob), G2[i]? = some (some o) → G[i]? = some (some o)) : S K T t G F := fun W D' σ H s j k => h W D' σ H (s.weak hl w) j k
/-! ### defs -/
/-- a def's promise, by data: what must hold of the arguments, what holds of the answer -/
def spA (K : PySem.W.Frag) (T : List (Addr × Str)) (pre : List Ob → Prop) (post : List Ob → PyData → Prop) : Sp := fun vs H Q _ => ∃ (W : Wd K T) (os : List Ob), W.J H ∧ Paired (OD W H) vs os ∧ pre os ∧ ∀ v d H', Ex W H H' → W.J H' → D W H' v d → post os d → Q v H'
/-- the same, the answer a new list -/
def spL (K : PySem.W.Frag) (T : List (Addr × Str)) (pre : List Ob → Prop) (post : List Ob → List PyData → Prop) : Sp := fun vs H Q _ => ∃ (W : Wd K T) (os : List Ob), W.J H ∧ Paired (OD W H) vs os ∧ pre os ∧
  ∀ p xs ds H', Fr W H p H' → W.J H' → ¬ W.X p → H' p = some (.lst xs) → DAll W H' xs ds → post os ds → Q (.ref p) H'
theorem e_callO {dvs : List V} {Ex' : XK} {tr : TA} {R : List Ob → Prop} {pre : List Ob → Prop} {post : List Ob → PyData → Prop} {P : PyData → Prop} (h : EA K T tr G R) (hp : ∀ os, R os → pre os ∧ ∀ d, post os d → P d) : E K T (tCall (spA K T pre post) [] Ex' tr) G P := fun W σ H s j Q q => h W σ H s j _ fun vs os H1 e1 j1 dv p => by
  obtain ⟨h1, h2⟩ := hp os p
  exact ⟨W, os, j1, by rw [List.append_nil]; exact dv, h1, fun v d H2 e2 j2 dv' z => q v d H2 (e1.trans e2) j2 dv' (h2 d z)⟩
theorem e_call {Ex' : XK} {tr : TA} {os : List Ob} {pre : List Ob → Prop} {post : List Ob → PyData → Prop} {P : PyData → Prop} (h : EA K T tr G (· = os)) (hp : pre os) (hk : ∀ d, post os d → P d) : E K T (tCall (spA K T pre post) [] Ex' tr) G P :=
  e_callO (dvs := []) h fun os' e => by rw [e]; exact ⟨hp, hk⟩
theorem el_call {Ex' : XK} {tr : TA} {os : List Ob} {pre : List Ob → Prop} {post : List Ob → List PyData → Prop} {P : List PyData → Prop} (h : EA K T tr G (· = os)) (hp : pre os) (hk : ∀ d, post os d → P d) : EL K T (tCall (spL K T pre post) [] Ex' tr) G P := fun W σ H s j Q q => h W σ H s j _ fun vs os' H1 e1 j1 dv p => by
  subst p
  exact ⟨W, _, j1, by rw [List.append_nil]; exact dv, hp, fun p xs ds H2 f2 j2 n h2 al z => q p xs ds H2 (f2.pre e1) j2 n h2 al (hk ds z)⟩
def startG (N : List Str) (os : List Ob) : Ctx := os.map some ++ List.replicate (N.length - os.length) none
theorem start_sl {N : List Str} {H : Hp} {vs : List V} {os : List Ob} (h : Paired (OD W H) vs os) : Sl W H (L2.start N vs) (startG N os) := by
  have hl := Paired.length h
  refine ⟨by unfold L2.start startG; simp [hl], fun i o e => ?_⟩
  have key : ∀ {vs : List V} {os : List Ob} {i : Nat} {o : Ob}, Paired (OD W H) vs os → os[i]? = some o → ∃ v, vs[i]? = some v ∧ OD W H v o := by
    intro vs os i o h
    induction h generalizing i with
    | nil => intro e; simp at e
    | cons a _ ih =>
      intro e
      cases i with
      | zero => simp at e; subst e; exact ⟨_, rfl, a⟩
      | succ i =>
        obtain ⟨v, h1, h2⟩ := ih (i := i) (by simpa using e)
        exact ⟨v, by simpa using h1, h2⟩
  unfold startG at e
  by_cases hi : i < os.length
  · rw [List.getElem?_append_left (by simpa using hi), List.getElem?_map] at e
    cases q : os[i]? with
    | none => rw [q] at e; cases e
    | some o' =>
      rw [q] at e
      cases e
      obtain ⟨v, h1, h2⟩ := key h q
      refine ⟨v, ?_, h2⟩
      unfold L2.start
      rw [List.getElem?_append_left (by simpa [hl] using hi), List.getElem?_map, h1]
      rfl
  · rw [List.getElem?_append_right (by simpa using Nat.le_of_not_lt hi), List.getElem?_replicate] at e
    split at e <;> cases e
section
variable {P : Program} {w : World} {mg : Str → Option Value} {base : Heap}
/-- THE RULE for a def: its body as a term, and its reading by data -/
theorem ok_def {x qual : Str} {st : Stmt} {f : Addr} {fd : FuncData} {N ps : List Str} {k : Nat} {pre : List Ob → Prop} {post : List Ob → PyData → Prop} (Fn : Fun K x qual st f fd) (Sc : FnScope N ps (defScope st)) (hl : ∀ os, pre os → os.length = ps.length)
    (hbody : ∀ (cdv : Value) (A : Around) (outer : List Env) (s : Shared) (H : Hp) (E' : XK), Room k (A.deeper (envOfC qual (defScope st) s.heap.objs.size f cdv)) →
      ∃ t, PSs (cxOf CX0 P w K mg base N qual (defScope st) f cdv A outer s H E').nox (defBody st) t ∧ ∀ os, pre os → S K T t (startG N os) { nx := fun _ => post os .none, rt := post os }) : FnOk P w K mg base CX0 (k + 1) f fd ps (spA K T pre post) := by
  refine Fn.ok Sc (fun vs H Q E' ⟨W, os, j, dv, hp, _⟩ => (Paired.length dv).trans (hl os hp)) fun cdv A outer s H vs Q E' hr ⟨W, os, j, dv, hp, q⟩ => ?_
  obtain ⟨t, ht, hs⟩ := hbody cdv A outer s H E' hr
  exact ⟨t, ht, hs os hp W _ _ H (start_sl dv) j ⟨fun σ' H' G' e j' _ f => q .non .none H' e j' .non f, fun v d H' e j' dv' f => q v d H' e j' dv' f, fun _ _ _ _ _ _ _ _ _ f => f.elim, fun _ _ _ _ _ _ f => f.elim, fun _ _ _ _ _ _ f => f.elim⟩⟩
/-- .. whose answer is a new list -/
theorem ok_defL {x qual : Str} {st : Stmt} {f : Addr} {fd : FuncData} {N ps : List Str} {k : Nat} {pre : List Ob → Prop} {post : List Ob → List PyData → Prop} (Fn : Fun K x qual st f fd) (Sc : FnScope N ps (defScope st)) (hl : ∀ os, pre os → os.length = ps.length)
    (hbody : ∀ (cdv : Value) (A : Around) (outer : List Env) (s : Shared) (H : Hp) (E' : XK), Room k (A.deeper (envOfC qual (defScope st) s.heap.objs.size f cdv)) →
      ∃ t, PSs (cxOf CX0 P w K mg base N qual (defScope st) f cdv A outer s H E').nox (defBody st) t ∧ ∀ os, pre os → S K T t (startG N os) { rl := post os }) : FnOk P w K mg base CX0 (k + 1) f fd ps (spL K T pre post) := by
  refine Fn.ok Sc (fun vs H Q E' ⟨W, os, j, dv, hp, _⟩ => (Paired.length dv).trans (hl os hp)) fun cdv A outer s H vs Q E' hr ⟨W, os, j, dv, hp, q⟩ => ?_
  obtain ⟨t, ht, hs⟩ := hbody cdv A outer s H E' hr
  exact ⟨t, ht, hs os hp W _ _ H (start_sl dv) j ⟨fun _ _ _ _ _ _ f => f.elim, fun _ _ _ _ _ _ f => f.elim, fun p xs ds H' f j' n h al z => q p xs ds H' f j' n h al z, fun _ _ _ _ _ _ f => f.elim, fun _ _ _ _ _ _ f => f.elim⟩⟩
end
end
end Dv
namespace Dv
open PySem PySem.Spec L2
open PyProof.Rows hiding St
section
variable {K : PySem.W.Frag} {T : List (Addr × Str)} {G : Ctx}
theorem dats_inj : ∀ {a b : List PyData}, dats a = dats b → a = b
  | [], [], _ => rfl
  | [], _ :: _, h => by cases h
  | _ :: _, [], h => by cases h
  | x :: xs, y :: ys, h => by
    have h1 := List.cons.inj h
    rw [Ob.dat.inj h1.1, dats_inj h1.2]
/-- a def that tells a function of its data -/
def spD (K : PySem.W.Frag) (T : List (Addr × Str)) (pre : List PyData → Prop) (F : List PyData → PyData) : Sp := spA K T (fun os => ∃ ds, os = dats ds ∧ pre ds) (fun os d => ∃ ds, os = dats ds ∧ d = F ds)
theorem e_callD {Ex' : XK} {tr : TA} {ds : List PyData} {pre : List PyData → Prop} {F : List PyData → PyData} (h : EA K T tr G (· = dats ds)) (hp : pre ds) : E K T (tCall (spD K T pre F) [] Ex' tr) G (· = F ds) :=
  e_call h ⟨ds, rfl, hp⟩ fun d ⟨es, e1, e2⟩ => by rw [e2, dats_inj e1]
/-- .. called by a slot that holds the def -/
theorem e_callLD {i : Nat} {f : Addr} {Ex' : XK} {tr : TA} {ds : List PyData} {pre : List PyData → Prop} {F : List PyData → PyData} (hf : G[i]? = some (some (.fn f))) (h : EA K T tr G (· = dats ds)) (hp : pre ds) : E K T (tCallL i f (spD K T pre F) [] Ex' tr) G (· = F ds) := fun W σ H s j Q q => by
  obtain ⟨v, h1, h2⟩ := s.at_ i _ hf
  cases h2 with
  | fn => exact ⟨h1, e_callD h hp W σ H s j Q q⟩
/-- .. a new list -/
def spDL (K : PySem.W.Frag) (T : List (Addr × Str)) (pre : List PyData → Prop) (F : List PyData → List PyData) : Sp := spL K T (fun os => ∃ ds, os = dats ds ∧ pre ds) (fun os d => ∃ ds, os = dats ds ∧ d = F ds)
theorem el_callD {Ex' : XK} {tr : TA} {ds : List PyData} {pre : List PyData → Prop} {F : List PyData → List PyData} (h : EA K T tr G (· = dats ds)) (hp : pre ds) : EL K T (tCall (spDL K T pre F) [] Ex' tr) G (· = F ds) :=
  el_call h ⟨ds, rfl, hp⟩ fun d ⟨es, e1, e2⟩ => by rw [e2, dats_inj e1]
variable {P : Program} {w : World} {mg : Str → Option Value} {base : Heap}
theorem ok_defD {x qual : Str} {st : Stmt} {f : Addr} {fd : FuncData} {N ps : List Str} {k : Nat} {pre : List PyData → Prop} {F : List PyData → PyData} (Fn : Fun K x qual st f fd) (Sc : FnScope N ps (defScope st)) (hl : ∀ ds, pre ds → ds.length = ps.length)
    (hbody : ∀ (cdv : Value) (A : Around) (outer : List Env) (s : Shared) (H : Hp) (E' : XK), Room k (A.deeper (envOfC qual (defScope st) s.heap.objs.size f cdv)) →
      ∃ t, PSs (cxOf CX0 P w K mg base N qual (defScope st) f cdv A outer s H E').nox (defBody st) t ∧ ∀ ds, pre ds → S K T t (startG N (dats ds)) { nx := fun _ => F ds = .none, rt := (· = F ds) }) : FnOk P w K mg base CX0 (k + 1) f fd ps (spD K T pre F) := by
  refine ok_def Fn Sc (fun os ⟨ds, e, hp⟩ => by rw [e, dats, List.length_map]; exact hl ds hp) fun cdv A outer s H E' hr => ?_
  obtain ⟨t, ht, hs⟩ := hbody cdv A outer s H E' hr
  refine ⟨t, ht, fun os ⟨ds, e, hp⟩ => ?_⟩
  subst e
  intro W D' σ H s j ok
  exact hs ds hp W D' σ H s j ⟨fun σ' H' G' e j' s' f => ok.nx σ' H' G' e j' s' ⟨ds, rfl, f.symm⟩, fun v d H' e j' dv f => ok.rt v d H' e j' dv ⟨ds, rfl, f⟩, fun _ _ _ _ _ _ _ _ _ f => f.elim, fun _ _ _ _ _ _ f => f.elim, fun _ _ _ _ _ _ f => f.elim⟩
theorem ok_defDL {x qual : Str} {st : Stmt} {f : Addr} {fd : FuncData} {N ps : List Str} {k : Nat} {pre : List PyData → Prop} {F : List PyData → List PyData} (Fn : Fun K x qual st f fd) (Sc : FnScope N ps (defScope st)) (hl : ∀ ds, pre ds → ds.length = ps.length)
    (hbody : ∀ (cdv : Value) (A : Around) (outer : List Env) (s : Shared) (H : Hp) (E' : XK), Room k (A.deeper (envOfC qual (defScope st) s.heap.objs.size f cdv)) →
      ∃ t, PSs (cxOf CX0 P w K mg base N qual (defScope st) f cdv A outer s H E').nox (defBody st) t ∧ ∀ ds, pre ds → S K T t (startG N (dats ds)) { rl := (· = F ds) }) : FnOk P w K mg base CX0 (k + 1) f fd ps (spDL K T pre F) := by
  refine ok_defL Fn Sc (fun os ⟨ds, e, hp⟩ => by rw [e, dats, List.length_map]; exact hl ds hp) fun cdv A outer s H E' hr => ?_
  obtain ⟨t, ht, hs⟩ := hbody cdv A outer s H E' hr
  refine ⟨t, ht, fun os ⟨ds, e, hp⟩ => ?_⟩
  subst e
  intro W D' σ H s j ok
  exact hs ds hp W D' σ H s j ⟨fun _ _ _ _ _ _ f => f.elim, fun _ _ _ _ _ _ f => f.elim, fun p xs ds' H' f j' n h al z => ok.rl p xs ds' H' f j' n h al ⟨ds, rfl, z⟩, fun _ _ _ _ _ _ f => f.elim, fun _ _ _ _ _ _ f => f.elim⟩
end
section
variable {K : PySem.W.Frag} {T : List (Addr × Str)} {G : Ctx} {te : TE}
def kInt : PyData → Bool | .int _ => true | .bool _ => true | _ => false
def kBool : PyData → Bool | .bool _ => true | _ => false
def kTup : PyData → Bool | .tuple _ => true | _ => false
def kLst : PyData → Bool | .list _ => true | _ => false
def kStr : PyData → Bool | .str _ => true | _ => false
theorem kb_int : ∀ d : PyData, kitB (tyD d) "int" = some (kInt d)
  | .none => (by decide +kernel : kitB "NoneType" "int" = some false)
  | .bool _ => (by decide +kernel : kitB "bool" "int" = some true)
  | .int _ => (by decide +kernel : kitB "int" "int" = some true)
  | .str _ => (by decide +kernel : kitB "str" "int" = some false)
  | .list _ => (by decide +kernel : kitB "list" "int" = some false)
  | .tuple _ => (by decide +kernel : kitB "tuple" "int" = some false)
  | .dict _ => (by decide +kernel : kitB "dict" "int" = some false)
theorem kb_bool : ∀ d : PyData, kitB (tyD d) "bool" = some (kBool d)
  | .none => (by decide +kernel : kitB "NoneType" "bool" = some false)
  | .bool _ => (by decide +kernel : kitB "bool" "bool" = some true)
  | .int _ => (by decide +kernel : kitB "int" "bool" = some false)
  | .str _ => (by decide +kernel : kitB "str" "bool" = some false)
  | .list _ => (by decide +kernel : kitB "list" "bool" = some false)
  | .tuple _ => (by decide +kernel : kitB "tuple" "bool" = some false)
  | .dict _ => (by decide +kernel : kitB "dict" "bool" = some false)
theorem kb_tup : ∀ d : PyData, kitB (tyD d) "tuple" = some (kTup d)
  | .none => (by decide +kernel : kitB "NoneType" "tuple" = some false)
  | .bool _ => (by decide +kernel : kitB "bool" "tuple" = some false)
  | .int _ => (by decide +kernel : kitB "int" "tuple" = some false)
  | .str _ => (by decide +kernel : kitB "str" "tuple" = some false)
  | .list _ => (by decide +kernel : kitB "list" "tuple" = some false)
  | .tuple _ => (by decide +kernel : kitB "tuple" "tuple" = some true)
  | .dict _ => (by decide +kernel : kitB "dict" "tuple" = some false)
theorem kb_lst : ∀ d : PyData, kitB (tyD d) "list" = some (kLst d)
  | .none => (by decide +kernel : kitB "NoneType" "list" = some false)
  | .bool _ => (by decide +kernel : kitB "bool" "list" = some false)
  | .int _ => (by decide +kernel : kitB "int" "list" = some false)
  | .str _ => (by decide +kernel : kitB "str" "list" = some false)
  | .list _ => (by decide +kernel : kitB "list" "list" = some true)
  | .tuple _ => (by decide +kernel : kitB "tuple" "list" = some false)
  | .dict _ => (by decide +kernel : kitB "dict" "list" = some false)
theorem kb_str : ∀ d : PyData, kitB (tyD d) "str" = some (kStr d)
  | .none => (by decide +kernel : kitB "NoneType" "str" = some false)
  | .bool _ => (by decide +kernel : kitB "bool" "str" = some false)
  | .int _ => (by decide +kernel : kitB "int" "str" = some false)
  | .str _ => (by decide +kernel : kitB "str" "str" = some true)
  | .list _ => (by decide +kernel : kitB "list" "str" = some false)
  | .tuple _ => (by decide +kernel : kitB "tuple" "str" = some false)
  | .dict _ => (by decide +kernel : kitB "dict" "str" = some false)
theorem bt_bool : bootBuiltins "bool" = some (.type "bool") := by decide +kernel
theorem bt_isinstance : bootBuiltins "isinstance" = some (.builtin "isinstance") := by decide +kernel
theorem bt_any : bootBuiltins "any" = some (.builtin "any") := by decide +kernel
theorem bt_sum : bootBuiltins "sum" = some (.builtin "sum") := by decide +kernel
theorem bt_tuple : bootBuiltins "tuple" = some (.type "tuple") := by decide +kernel
theorem bt_list : bootBuiltins "list" = some (.type "list") := by decide +kernel
theorem bt_int : bootBuiltins "int" = some (.type "int") := by decide +kernel
theorem bt_str : bootBuiltins "str" = some (.type "str") := by decide +kernel
theorem bt_len : bootBuiltins "len" = some (.builtin "len") := by decide +kernel
theorem bt_sorted : bootBuiltins "sorted" = some (.builtin "sorted") := by decide +kernel
end
end Dv

/-! ### enumerate of a tuple -/
namespace PySem
set_option maxHeartbeats 1000000 in
theorem dv_meets_enum {v : Value} {o : Obj} {H : Heap → Prop} (B : Begins v o H) :
    Meets (Builtin.«enumerate.__new__» ⟨[.type "enumerate", v], []⟩) (fun _ R s => H s.heap ∧
      R (.ok (.ret (.ref (s.heap.push o).objs.size))) { s with heap := (s.heap.push o).push { cls := .type "enumerate", data := .fields #[.none, .bool false, .ref s.heap.objs.size, rawInt 0, .none, .none] } }) :=
  .of_wp fun prog w A R s h => by
    obtain ⟨hp, g, d, tk, os⟩ := s; obtain ⟨h1, h⟩ := h
    have hsub := sub_enumerate
    have q1 : ∀ {A' : Around} {E : Value → Shared → Prop} {Q : Value → Shared → Prop}, Q (.ref hp.objs.size) ⟨hp.push o, g, d, tk, os⟩ → wpAny (model prog w) A' (pyIter v) Q E ⟨hp, g, d, tk, os⟩ :=
      fun q => B.iter prog w _ _ ⟨hp, g, d, tk, os⟩ _ h1 q
    wp_walk using q1
    refine wpAny_stack_any fun st => wpAny_pure ?_
    split
    · rename_i c _ _ _ _ _
      cases (c == Value.type "enumerate")
      · wp_walk using q1
        exact ⟨_, rfl, h⟩
      · wp_walk using q1
        exact ⟨_, rfl, h⟩
    · wp_walk using q1
      exact ⟨_, rfl, h⟩
section
variable {prog : Program} {w : World} {A : Around} {E : Value → Shared → Prop} {s : Shared}
theorem dv_enum_begins {v : Value} {o : Obj} {H : Heap → Prop} {Q : Value → Shared → Prop} (B : Begins v o H) (h1 : H s.heap)
    (h : ∀ h', IsEnum h' (s.heap.objs.size + 1) s.heap.objs.size 0 .none → h'.get? s.heap.objs.size = some o → h'.objs.size = s.heap.objs.size + 2 →
      (∀ b o, s.heap.get? b = some o → h'.get? b = some o) → Q (.ref (s.heap.objs.size + 1)) { s with heap := h' }) :
    wpAny (model prog w) A (call (.type "enumerate") [v]) Q E s := by
  refine callType_new F.called_enumerate (by decide) (F.typeCall_enumerate_1 _) (F.newCall_enumerate_1 _) (fun obj => F.args_object_init_2 obj _) F.entry_enumerate_new
    (dv_meets_enum B) ⟨h1, ?_⟩
  have hz : (s.heap.push o).objs.size = s.heap.objs.size + 1 := Heap.size_push ..
  show _ ∧ _
  rw [hz]
  have he : IsEnum ((s.heap.push o).push { cls := .type "enumerate", data := .fields #[.none, .bool false, .ref s.heap.objs.size, rawInt 0, .none, .none] }) (s.heap.objs.size + 1) s.heap.objs.size 0 .none := by
    have := Heap.get?_push_size (s.heap.push o) (o := { cls := .type "enumerate", data := .fields #[.none, .bool false, .ref s.heap.objs.size, rawInt 0, .none, .none] }) rfl
    rw [hz] at this; exact this
  refine ⟨⟨_, he, rfl⟩, h _ he (Heap.get?_push_of_some _ (Heap.get?_push_size _ B.free)) (by rw [Heap.size_push, hz]) fun b o x => Heap.get?_push_of_some _ (Heap.get?_push_of_some _ x)⟩
end
end PySem
namespace Dv
open PySem PySem.Spec L2
open PyProof.Rows hiding St
/-- the tuple at a, each item in a new pair -/
def IteT (K : PySem.W.Frag) (a : Addr) : It :=
  ⟨fun i H => ∃ (xs : List V) (x : V), SqT K H a xs ∧ xs[i]? = some x, fun i H v H' => ∃ T x, v = .ref T ∧ H T = none ∧ H' = upd H T (.tup [.int (i : Nat), x]) ∧ ∀ xs, SqT K H a xs → xs[i]? = some x, fun i H => ∃ xs : List V, SqT K H a xs ∧ xs.length = i⟩
theorem turn_enumT {P : Program} {w : World} {K : PySem.W.Frag} {elts : List Expr} {kk : Nat} {tpos : Pos} (a e it : Addr) (hae : a ≠ e) (hai : a ≠ it) :
    Turn P w K (.Tuple elts kk tpos) (IteT K a) [e, it] e (fun i h => (∃ old, IsEnum h e it ((i : Nat) : Int) old) ∧ h.IsTupleIter it a i ∧ e ≠ it) where
  mem := by simp
  obj := fun i h st b hb => by
    obtain ⟨⟨old, he⟩, ⟨o, ho, hc, hd⟩, _⟩ := st
    have e' : b = e ∨ b = it := by simpa using hb
    rcases e' with z | z
    · rw [z]; exact ⟨_, he, fun v q => nomatch q⟩
    · rw [z]; exact ⟨o, ho, fun v q => by rw [hd] at q; cases q⟩
  keep := fun i h h' st k => let ⟨⟨old, he⟩, hi, hne⟩ := st; ⟨⟨old, k e (by simp) _ he⟩, hi.at fun o q => k it (by simp) o q, hne⟩
  item := by
    intro X hP hw hK hc i pins s σ H E I hf st hg
    subst hP hw hK
    obtain ⟨⟨old, he⟩, hit, hne⟩ := st
    obtain ⟨xs, x, hq, hx⟩ := hg
    obtain ⟨its, rv, p, hz⟩ := I.tuple hq
    obtain ⟨u, hu, ru⟩ := rv.get hx
    have hel : e < s.heap.objs.size := Heap.lt_size he
    have hil : it < s.heap.objs.size := by obtain ⟨_, q, _⟩ := hit; exact Heap.lt_size q
    have hlt : i < its.toArray.size := by
      have := (List.getElem?_eq_some_iff.mp hu).1
      simpa using this
    refine wpAny_pyNext_enum_itemD (Draws.tuple (prog := X.prog) (w := X.w) (A := X.A.in1) (I.ok.hd hc) it a hai its.toArray) he ⟨hit, p⟩ hlt hne (by simp; exact ⟨hne, Ne.symm hae⟩) fun x' h' tk hP ho hst hT hsz hk => ?_
    have hx' : x' = u := by
      have q : its.toArray[i]? = some u := by simpa using hu
      rw [q] at hP
      exact (Option.some.inj hP).symm
    subst hx'
    refine ⟨_, rfl, wpAny_letOwnedTupleGo_enum (s := { s with heap := h', toks := tk + 1 }) ho fun h'' he' sb => ?_⟩
    have hT2 : h''.get? s.heap.objs.size = some { cls := .type "tuple", data := .seq #[.int i tk, x'] } := (sb.2 _ (Nat.ne_of_gt hel)).trans hT
    have new : ObjOk X.prog X.w (upd H s.heap.objs.size (.tup [.int (i : Nat), x])) h'' s.heap.objs.size (.tup [.int (i : Nat), x]) :=
      ⟨by show 2 ≤ sizeLine; decide, [.int i tk, x'], .cons ⟨_, rfl⟩ (.cons ru .nil), ⟨_, hT2, rfl, _, rfl⟩⟩
    have I1 : Inv X pins σ (upd H s.heap.objs.size (.tup [.int (i : Nat), x])) { s with heap := h'', toks := tk + 1 } :=
      I.turnedNew (ch := [e, it]) (fun b ob hb q => (sb.2 b (fun z => hb (by simp [z]))).trans (hk b ob (fun z => hb (by simp [z])) (fun z => hb (by simp [z])) q)) hf (Nat.le_refl _) new
    refine ⟨.ref s.heap.objs.size, _, I1, rfl, ⟨_, x, rfl, I.hok.fresh (Nat.le_refl _), rfl, fun ys hy => by rw [I.tuple_inj hy hq]; exact hx⟩, ⟨⟨x', ?_⟩, hst.1.at fun o q => (sb.2 it (Ne.symm hne)).trans q, hne⟩, fun b hb => ?_⟩
    · have e1 : ((i + 1 : Nat) : Int) = (i : Int) + 1 := by omega
      rw [e1]; exact he'
    · have hb' : b < s.heap.objs.size := by
        have e' : b = e ∨ b = it := by simpa using hb
        rcases e' with z | z
        · rw [z]; exact hel
        · rw [z]; exact hil
      rw [upd_ne (Nat.ne_of_lt hb')]
      exact (hf b hb).1
  done := by
    intro X hP hw hK hc i pins s σ H E I hf st hg
    subst hP hw hK
    obtain ⟨⟨old, he⟩, hit, hne⟩ := st
    obtain ⟨xs, hq, hx⟩ := hg
    obtain ⟨its, rv, p, hz⟩ := I.tuple hq
    obtain ⟨f0, f1, f2, f3, f4, f5⟩ := hf it (by simp)
    have hl := rv.length
    have e : its.toArray.size = i := by rw [List.size_toArray, ← hl]; exact hx
    subst e
    exact wpAny_pyNext_enum_endD (Draws.tuple (prog := X.prog) (w := X.w) (A := X.A.in1) (I.ok.hd hc) it a hai its.toArray) he ⟨hit, p⟩ fun h' eb => ⟨rfl, I.turned (t' := s.toks) (fun b o hb q => eb b o hb q) f0 f1 f3 f4 f5⟩
  self := fun A i s Q E st h => let ⟨⟨_, he⟩, _⟩ := st; wpAny_pyIter_enum he h
def iEnumT (K : PySem.W.Frag) (ta : TA) : TI := fun σ H R => ta σ H fun vs H1 => ∃ a xs, vs = [.ref a] ∧ SqT K H1 a xs ∧ R (IteT K a) H1
theorem pi_enumT {X : Cx} {e : Expr} {ta : TA} {p pos tpos : Pos} {elts : List Expr} {kk : Nat} (hg : Gl X "enumerate") (hm : X.mg "enumerate" = none) (ha : PA X [e] ta) (hs : starEach [e] X.env = [(false, eval e X.env)] := by rfl) :
    PI X (.Tuple elts kk tpos) (.Call (.Name "enumerate" p) [e] [] pos) (iEnumT X.K ta) := by
  refine ⟨fun pins s σ H R I h => ?_⟩
  refine Call_ (ld_blt I hg hm boot_enumerate (PyProof.Rows.callWith_type1 (thn (ha.run pos pins s σ H _ I h) fun us s1 ⟨vs, H1, I1, r1, q1⟩ => ?_) hs rfl))
  obtain ⟨a, xs, ex, hq, q⟩ := q1
  subst ex
  cases r1 with
  | cons r rr =>
    cases rr
    cases r
    obtain ⟨its, rv, p', hz⟩ := I1.tuple hq
    have hal : a < s1.heap.objs.size := by
      obtain ⟨o, ho, _⟩ := id p'
      exact Heap.lt_size ho
    refine dv_enum_begins (begins_tuple a its.toArray) p' fun h' he hit hsz hk => wpAny_pyIter_enum he ?_
    have I2 : Inv X pins σ H1 { s1 with heap := h' } := I1.kept (t' := s1.toks) hk
    refine ⟨s1.heap.objs.size + 1, [s1.heap.objs.size + 1, s1.heap.objs.size], _, _, H1, rfl, I2, turn_enumT a (s1.heap.objs.size + 1) s1.heap.objs.size (Nat.ne_of_lt (Nat.lt_succ_of_lt hal)) (Nat.ne_of_lt hal), ⟨⟨.none, he⟩, ⟨_, hit, rfl, rfl⟩, Nat.succ_ne_self _⟩, fun b hb => ?_, q⟩
    have e' : b = s1.heap.objs.size + 1 ∨ b = s1.heap.objs.size := by simpa using hb
    have hle : s1.heap.objs.size ≤ b := by
      rcases e' with z | z
      · rw [z]; exact Nat.le_add_right _ _
      · rw [z]; exact Nat.le_refl _
    exact I1.fpOk hle (I1.hok.fresh hle)
theorem walk_enumT {K : PySem.W.Frag} {a : Addr} {xs : List V} : Walk (IteT K a) xs.length (fun H => SqT K H a xs) (YPair (fun i => some (.int (i : Nat))) (fun i => xs[i]?)) := by
  refine ⟨fun i _ hi q => ⟨xs, xs[i], q, by simp [hi]⟩, fun _ q => ⟨xs, q, rfl⟩, fun i H v H' _ q y => ?_⟩
  obtain ⟨T, x, h1, h2, h3, h4⟩ := y
  exact ⟨T, .int (i : Nat), x, h1, h2, h3, rfl, h4 xs q⟩
theorem i_enumT {K K' : PySem.W.Frag} {T : List (Addr × Str)} {G : Ctx} {ds : List PyData} {tr : TA} (h : EA K T tr G (· = [.dat (.tuple ds)])) : Iw K T (iEnumT K' tr) G ds.length (fun i d => ∃ x, ds[i]? = some x ∧ d = .tuple [.int (i : Nat), x]) := fun W σ H s j R r => h W σ H s j _ fun vs os H1 e1 j1 dv p => by
  subst p
  have a := all_of (ds := [.tuple ds]) dv
  cases a with
  | cons dz b =>
    cases b
    obtain ⟨a, xs, rfl, nx, ha, al⟩ := dz.tup_inv
    have hl := al.length
    refine ⟨a, xs, rfl, SqT.of ha, ?_⟩
    have w := walk_enumT (K := K') (a := a) (xs := xs)
    rw [hl] at w
    refine r (IteT K' a) H1 _ _ e1 j1 w (fun W2 H2 c e2 => ?_) fun W2 i H2 x H3 c hi e2 j2 y => ?_
    · obtain ⟨a', xs', ea, nx', ha', al'⟩ := (c _ _ dz).tup_inv
      cases ea
      rw [ha] at ha'; cases ha'
      exact SqT.of (e2.k _ _ ha (fun _ z => by cases z) nx')
    · obtain ⟨Tp, x1, x2, rfl, hT, rfl, h1, h2⟩ := y
      cases h1
      obtain ⟨a', xs', ea, nx', ha', al'⟩ := (c _ _ dz).tup_inv
      cases ea
      rw [ha] at ha'; cases ha'
      obtain ⟨d, h3, h4⟩ := al'.getV h2
      exact ⟨.new hT, j_new j2 hT, .tuple [.int (i : Nat), d], .tup (new_ne j2 hT) upd_same (.cons (.int _) (.cons ((h4.mono e2).mono (.new hT)) .nil)), d, h3, rfl⟩
end Dv

/-! ### itertools.combinations of a range -/
namespace DvC
open PySem PySem.Spec
open Sem (wp)
theorem mro_c : mroOf (.type "itertools.combinations") = pure [.type "itertools.combinations", .type "object"] := by rw [mroOf_type]; kernel_rfl
theorem lookup_c_new : typeLookup (.type "itertools.combinations") "__new__" = pure (some (.builtin "itertools.combinations.__new__")) := by rw [typeLookup_type, builtinLookup_eq_fast]; kernel_rfl
theorem slot_c_init : Slot "itertools.combinations" "__init__" "object.__init__" :=
  .of (owner := "object") (n := "__init__") (by rw [typeLookup_type, builtinLookup_eq_fast]; kernel_rfl) (by decide +kernel) (by decide +kernel) (by decide +kernel)
    (by first | exact .inl (by decide +kernel) | exact .inr (by decide +kernel)) (by rw [isSubtype_type]; kernel_rfl)
theorem sub_c : isSubtype (.type "itertools.combinations") (.type "itertools.combinations") = pure true := by rw [isSubtype_type]; kernel_rfl
theorem called_c : TypeCalled "itertools.combinations" "itertools.combinations.__new__" "object.__init__" :=
  ⟨by decide +kernel, by decide +kernel, ⟨_, _, mro_c⟩, madeBy_type mro_c lookup_c_new (by decide +kernel), by decide +kernel, sub_c, slot_c_init⟩
theorem typeCall_c (a b : Value) : checkTypeCall "itertools.combinations" ⟨[a, b], []⟩ = pure () := by kernel_rfl
theorem newCall_c (a b : Value) : checkBuiltinCall "itertools.combinations.__new__" ⟨[.type "itertools.combinations", a, b], []⟩ = pure () := by kernel_rfl
theorem entry_c_new : entryFor table "itertools.combinations.__new__" = some Builtin.«itertools.combinations.__new__» := entryFor_of_tree (by kernel_rfl)
theorem plain_c_new : plainId "itertools.combinations.__new__" = true := by decide +kernel
theorem slot_c_iter : Slot "itertools.combinations" "__iter__" "itertools.combinations.__iter__" :=
  .of (owner := "itertools.combinations") (n := "__iter__") (by rw [typeLookup_type, builtinLookup_eq_fast]; kernel_rfl) (by decide +kernel) (by decide +kernel) (by decide +kernel)
    (by first | exact .inl (by decide +kernel) | exact .inr (by decide +kernel)) sub_c
theorem slot_c_next : Slot "itertools.combinations" "__next__" "itertools.combinations.__next__" :=
  .of (owner := "itertools.combinations") (n := "__next__") (by rw [typeLookup_type, builtinLookup_eq_fast]; kernel_rfl) (by decide +kernel) (by decide +kernel) (by decide +kernel)
    (by first | exact .inl (by decide +kernel) | exact .inr (by decide +kernel)) sub_c
theorem entry_c_iter : entryFor table "itertools.combinations.__iter__" = some Builtin.«dict_keyiterator.__iter__» :=
  entryFor_alias (id' := "dict_keyiterator.__iter__") (by kernel_rfl) (by first | rfl | decide +kernel | (unfold String.splitOn; simp +decide [String.splitOnAux])) (by decide +kernel) (by kernel_rfl)
theorem entry_c_next : entryFor table "itertools.combinations.__next__" = some Builtin.«itertools.combinations.__next__» := entryFor_of_tree (by kernel_rfl)
theorem args_c_iter (a : Value) : argsOk "itertools.combinations.__iter__" ⟨[a], []⟩ := by unfold argsOk; kernel_rfl
theorem args_c_next (a : Value) : argsOk "itertools.combinations.__next__" ⟨[a], []⟩ := by unfold argsOk; kernel_rfl
theorem noDict_c : typeHasDict (.type "itertools.combinations") = false := by decide +kernel
theorem args_init3 (o a b : Value) : argsOk "object.__init__" ⟨[o, a, b], []⟩ := F.args_object_init_3 o a b
end DvC

namespace DvC
open PySem PySem.Spec
open Sem (wp)
/-- a combinations object: its pool, its state, what it handed out, the places -/
abbrev cObj (pool : Addr) (st : Int) (last : Value) (idx : List Nat) : Obj := { cls := .type "itertools.combinations", data := .fields (#[.ref pool, .int st 0, last] ++ (idx.map fun (n : Nat) => rawInt n).toArray) }
def IsComb (h : Heap) (it pool : Addr) (st : Int) (last : Value) (idx : List Nat) : Prop := h.get? it = some (cObj pool st last idx)
theorem f0 {pool : Addr} {st : Int} {last : Value} {idx : List Nat} : (#[Value.ref pool, .int st 0, last] ++ (idx.map fun (n : Nat) => rawInt n).toArray)[0]? = some (.ref pool) := by simp
theorem f1 {pool : Addr} {st : Int} {last : Value} {idx : List Nat} : (#[Value.ref pool, .int st 0, last] ++ (idx.map fun (n : Nat) => rawInt n).toArray)[1]? = some (.int st 0) := by simp
theorem f2 {pool : Addr} {st : Int} {last : Value} {idx : List Nat} : (#[Value.ref pool, .int st 0, last] ++ (idx.map fun (n : Nat) => rawInt n).toArray)[2]? = some last := by simp
theorem fdrop {pool : Addr} {st : Int} {last : Value} {idx : List Nat} : ((#[Value.ref pool, .int st 0, last] ++ (idx.map fun (n : Nat) => rawInt n).toArray).toList.drop 3) = idx.map fun (n : Nat) => rawInt n := by simp
section
variable {prog : Program} {w : World} {A : Around} {E : Value → Shared → Prop} {s : Shared}
theorem cr_c (a b : Value) : Builtin.Itertools.itClassAndRest "combinations" ⟨[.type "itertools.combinations", a, b], []⟩ = pure (.type "itertools.combinations", [a, b]) := by
  unfold Builtin.Itertools.itClassAndRest
  have e : isType (.type "itertools.combinations") = pure true := by first | rfl | kernel_rfl | (unfold isType; rw [isSubtype_type]; kernel_rfl)
  have e2 : isSubtype (.type "itertools.combinations") (.type ("itertools." ++ "combinations")) = pure true := sub_c
  simp only [e, e2, pure_bind]
  rfl
theorem bn_c (a b : Value) : Builtin.Itertools.itBindNamed "combinations" ["iterable", "r"] 2 2 [a, b] [] = pure [some a, some b] := by first | rfl | kernel_rfl
theorem ss_c {k : Nat} {t : Tok} (hk : k ≤ 1000) : Builtin.Itertools.itSsizeArg (.int k t) = pure (k : Int) := by
  unfold Builtin.Itertools.itSsizeArg
  have e : asIndex (.int k t) = pure (k : Int) := by first | rfl | kernel_rfl | (unfold asIndex; rfl)
  rw [e, pure_bind]
  have q : ¬ ((decide ((k : Int) < -(2 ^ 63 : Int)) || decide ((k : Int) ≥ 2 ^ 63)) = true) := by simp; omega
  rw [if_neg q]
/-- combinations(range, k) -/
theorem code_new {r : Addr} {a b c : Int} {t u v tk0 : Tok} {n : Nat} {k : Nat} {Q₁ : Value → Shared → Prop} (hh : A.handled = none) (hr : IsRange s.heap r a b c t u v) (hsmall : Builtin.Range.small a b c = true) (hn : Builtin.Range.rangeSize a b c = n) (hlen : n ≤ 2 ^ 24) (hk : k ≤ 1000)
    (h : ∀ (h' : Heap) (tk : Nat) (acc : Array Value), (∀ b o, s.heap.get? b = some o → h'.get? b = some o) → ItemsOf (fun i v => ∃ t, v = .int (a + i * c) t) acc n →
      Q₁ (.ref (h'.objs.size + 1)) { s with heap := (h'.push { cls := .type "tuple", data := .seq acc }).push (cObj h'.objs.size (if k > n then 2 else 0) .none (List.range k)), toks := tk }) :
    codeAny (model prog w) A (.call (.builtin "itertools.combinations.__new__") ⟨[.type "itertools.combinations", .ref r, .int k tk0], []⟩) (wants Q₁ E) s := by
  refine codeAny_of_tree ?_
  show wpAny _ A.in1 (do checkBuiltinCall "itertools.combinations.__new__" ⟨[.type "itertools.combinations", .ref r, .int k tk0], []⟩; again (.builtin "itertools.combinations.__new__" ⟨[.type "itertools.combinations", .ref r, .int k tk0], []⟩)) _ _ s
  refine wpAny_bind (wpAny_of_eq (newCall_c _ _) (wpAny_pure ⟨plainId_quiet plain_c_new _, codeAny_builtin entry_c_new ?_⟩))
  rw [Around.under_plainId plain_c_new _]
  have hh1 : A.in1.handled = none := hh
  show wpAny _ _ ((Builtin.Itertools.itClassAndRest "combinations" _ >>= _) >>= _) _ _ s
  refine wpAny_bind (wpAny_bind (wpAny_of_eq (cr_c _ _) ?_))
  show wpAny _ _ (Builtin.Itertools.itBindNamed "combinations" ["iterable", "r"] 2 2 [.ref r, .int k tk0] [] >>= _) _ _ s
  refine wpAny_bind (wpAny_of_eq (bn_c _ _) ?_)
  show wpAny _ _ (Builtin.Itertools.itSsizeArg (.int k tk0) >>= _) _ _ s
  refine wpAny_bind (wpAny_of_eq (ss_c hk) ?_)
  show wpAny _ _ (collect (.ref r) >>= _) _ _ s
  refine wpAny_bind (L2.collect_range (A := A.in1) hh1 hr hsmall hn hlen fun h' tk acc hkp hi => ?_)
  have hsz := hi.1
  show wpAny _ _ (if (k : Int) < 0 then _ else _) _ _ _
  rw [if_neg (show ¬ ((k : Int) < 0) by omega)]
  show wpAny _ _ (if Builtin.Itertools.itTooMany (k : Int) = true then _ else _) _ _ _
  rw [if_neg (by unfold Builtin.Itertools.itTooMany; simp; omega)]
  show wpAny _ _ (newTuple acc.toList >>= _) _ _ _
  refine wpAny_bind ?_
  simp only [newTuple]
  refine wpAny_newObj_type ?_ (by show acc.toList.toArray.size ≤ sizeLine; simp only [Array.toArray_toList]; rw [hsz, sizeLine_eq]; omega)
  refine wpAny_pure ?_
  show wpAny _ _ (Builtin.Itertools.itNewRecord (.type "itertools.combinations") _ >>= _) _ _ _
  refine wpAny_bind ?_
  unfold Builtin.Itertools.itNewRecord
  rw [noDict_c]
  rw [if_pos (show (!false) = true from rfl)]
  have e1 : acc.toList.length = n := by rw [Array.length_toList]; exact hsz
  have e2 : (h'.push { cls := .type "tuple", data := .seq acc }).objs.size = h'.objs.size + 1 := Heap.size_push ..
  have e := h h' tk acc hkp hi
  rw [← e2] at e
  have eA : acc.toList.toArray = acc := by simp
  have eo : ({ cls := .type "itertools.combinations", data := .fields ([Value.ref h'.objs.size, rawInt (if (k : Int).toNat > acc.toList.length then 2 else 0), Value.none] ++ List.map (fun (i : Nat) => rawInt i) (List.range (k : Int).toNat)).toArray } : Obj) =
      cObj h'.objs.size (if k > n then 2 else 0) .none (List.range k) := by
    rw [e1, Int.toNat_natCast]
    simp [rawInt]
  refine wpAny_newObj_type (wpAny_pure ?_) (by show Array.size _ ≤ sizeLine + 2; rw [sizeLine_eq]; simp; omega)
  show Q₁ (.ref (h'.push { cls := .type "tuple", data := .seq acc.toList.toArray }).objs.size) { s with heap := (h'.push { cls := .type "tuple", data := .seq acc.toList.toArray }).push ({ cls := .type "itertools.combinations", data := .fields ([Value.ref h'.objs.size, rawInt (if (k : Int).toNat > acc.toList.length then 2 else 0), Value.none] ++ List.map (fun (i : Nat) => rawInt i) (List.range (k : Int).toNat)).toArray } : Obj), toks := tk }
  rw [eo, eA]
  exact e
theorem call_comb {r : Addr} {a b c : Int} {t u v tk0 : Tok} {n : Nat} {k : Nat} {Q : Value → Shared → Prop} (hh : A.handled = none) (hr : IsRange s.heap r a b c t u v) (hsmall : Builtin.Range.small a b c = true) (hn : Builtin.Range.rangeSize a b c = n) (hlen : n ≤ 2 ^ 24) (hk : k ≤ 1000)
    (h : ∀ (h' : Heap) (tk : Nat) (acc : Array Value), (∀ b o, s.heap.get? b = some o → h'.get? b = some o) → ItemsOf (fun i v => ∃ t, v = .int (a + i * c) t) acc n →
      Q (.ref (h'.objs.size + 1)) { s with heap := (h'.push { cls := .type "tuple", data := .seq acc }).push (cObj h'.objs.size (if k > n then 2 else 0) .none (List.range k)), toks := tk }) :
    wpAny (model prog w) A (call (.type "itertools.combinations") [.ref r, .int k tk0]) Q E s := by
  refine callType_codes (Q₁ := fun obj s₁ => s₁.TypeIs obj "itertools.combinations" ∧ Q obj s₁) called_c (typeCall_c _ _) F.entry_object_init
    (code_new (A := A.in1) hh hr hsmall hn hlen hk fun h' tk acc hk hacc => ⟨⟨cObj h'.objs.size (if k > n then 2 else 0) .none (List.range k), ?_, rfl⟩, h h' tk acc hk hacc⟩) fun obj s₁ h₁ => ?_
  · have e2 : (h'.push { cls := .type "tuple", data := .seq acc }).objs.size = h'.objs.size + 1 := Heap.size_push ..
    rw [← e2]
    exact Heap.get?_push_size _ rfl
  · exact ⟨h₁.1, F.args_object_init_3 obj _ _, object_init_meets called_c.init.lookup called_c.made (by decide) prog w A.in1 _ s₁ ⟨h₁.1, rfl, h₁.2⟩⟩
theorem iter_comb {it pool : Addr} {st : Int} {last : Value} {idx : List Nat} {Q : Value → Shared → Prop} (hit : IsComb s.heap it pool st last idx) (h : Q (.ref it) s) : wpAny (model prog w) A (pyIter (.ref it)) Q E s := by
  have hT : s.TypeIs (.ref it) "itertools.combinations" := ⟨_, hit, rfl⟩
  refine wpAny_pyIter_slot hT slot_c_iter (wpAny_call_entry slot_c_iter hT entry_c_iter ?_ (args_c_iter _))
  show wpAny _ _ (ret (.ref it)) _ _ s
  exact wpAny_pure ⟨_, rfl, "itertools.combinations", _, hT, slot_c_next.lookup, h⟩
theorem comb_upd {h : Heap} {it pool : Addr} {st st' : Int} {last : Value} {idx : List Nat} (hit : IsComb h it pool st last idx) : IsComb (h.update it (Obj.mapFields fun x => x.setIfInBounds 1 (rawInt st'))) it pool st' last idx := by
  have e : Obj.mapFields (fun x => x.setIfInBounds 1 (rawInt st')) (cObj pool st last idx) = cObj pool st' last idx := by simp [Obj.mapFields, cObj, rawInt]
  have q := Heap.get?_update_self (Obj.mapFields fun x => x.setIfInBounds 1 (rawInt st')) hit rfl
  rw [e] at q
  exact q
theorem comb_upd2 {h : Heap} {it pool : Addr} {st : Int} {last last' : Value} {idx : List Nat} (hit : IsComb h it pool st last idx) : IsComb (h.update it (Obj.mapFields fun x => x.setIfInBounds 2 last')) it pool st last' idx := by
  have e : Obj.mapFields (fun x => x.setIfInBounds 2 last') (cObj pool st last idx) = cObj pool st last' idx := by simp [Obj.mapFields, cObj, rawInt]
  have q := Heap.get?_update_self (Obj.mapFields fun x => x.setIfInBounds 2 last') hit rfl
  rw [e] at q
  exact q
theorem comb_upd3 {h : Heap} {it pool : Addr} {st : Int} {last : Value} {idx idx' : List Nat} (hit : IsComb h it pool st last idx) : IsComb (h.update it (Obj.mapFields fun fs => fs.extract 0 3 ++ (idx'.map fun (n : Nat) => rawInt n).toArray)) it pool st last idx' := by
  have e : Obj.mapFields (fun fs => fs.extract 0 3 ++ (idx'.map fun (n : Nat) => rawInt n).toArray) (cObj pool st last idx) = cObj pool st last idx' := by simp [Obj.mapFields, cObj, rawInt]
  have q := Heap.get?_update_self (Obj.mapFields fun fs => fs.extract 0 3 ++ (idx'.map fun (n : Nat) => rawInt n).toArray) hit rfl
  rw [e] at q
  exact q
theorem step_some {α β : Type} {M : Model} {A : Around} {E : Value → Shared → Prop} {s : Shared} {o : Option α} {j : α} {f : α → Sem β} {g : Sem β} {Q : β → Shared → Prop} (h : o = some j) (k : wpAny M A (f j) Q E s) : wpAny M A (match o with | some x => f x | none => g) Q E s := by
  subst h
  exact k
theorem step_none {α β : Type} {M : Model} {A : Around} {E : Value → Shared → Prop} {s : Shared} {o : Option α} {f : α → Sem β} {g : Sem β} {Q : β → Shared → Prop} (h : o = none) (k : wpAny M A g Q E s) : wpAny M A (match o with | some x => f x | none => g) Q E s := by
  subst h
  exact k
theorem hand {it pool : Addr} {last : Value} {idx : List Nat} {us : List Value} {P : Fin → Shared → Prop} (hit : IsComb s.heap it pool 1 last idx) (hp : s.heap.IsTuple pool us.toArray) (hlen : idx.length ≤ 1000)
    (hP : ∀ h', IsComb h' it pool 1 (.ref s.heap.objs.size) idx → h'.get? s.heap.objs.size = some { cls := .type "tuple", data := .seq (idx.map fun i => us.getD i .none).toArray } → (∀ b o, b ≠ it → s.heap.get? b = some o → h'.get? b = some o) →
      P (.done (.ret (.ref s.heap.objs.size))) { s with heap := h' }) :
    wpAny (model prog w) A ((Builtin.Itertools.itPoolItems (.ref pool) >>= fun xs => newTuple (idx.map fun i => xs.getD i .none)) >>= fun (r : Value) => field (.ref it) 2 >>= fun b => setField (.ref it) 2 r >>= fun _ => letGo [b] [r] >>= fun _ => ret r) P E s := by
  obtain ⟨op, hop, hc, n0, hd⟩ := id hp
  have hil : it < s.heap.objs.size := Heap.lt_size hit
  refine wpAny_bind (wpAny_bind ?_)
  show wpAny _ _ (seqItems? (.ref pool) >>= _) _ _ s
  refine wpAny_bind (wpAny_seqItems hop hd (wpAny_pure ?_))
  simp only [newTuple]
  have ev : (idx.map fun i => us.toArray.getD i Value.none) = idx.map fun i => us.getD i .none := by
    refine List.map_congr_left fun i _ => ?_
    simp [Array.getD_eq_getD_getElem?, List.getD_eq_getElem?_getD]
  rw [ev]
  refine wpAny_newObj_type ?_ (by show Array.size _ ≤ sizeLine; rw [sizeLine_eq]; simp; omega)
  have hit2 : IsComb (s.heap.push { cls := .type "tuple", data := .seq (idx.map fun i => us.getD i Value.none).toArray }) it pool 1 last idx := Heap.get?_push_of_some _ hit
  refine wpAny_bind (wpAny_field hit2 rfl f2 ?_)
  refine wpAny_bind (wpAny_setField hit2 rfl (by simp) ?_)
  refine wpAny_bind (wpAny_letGo (wpAny_pure ?_))
  refine hP _ (comb_upd2 hit2) ?_ fun b o hb e => ?_
  · exact (Heap.get?_update_ne _ _ _ _ (Nat.ne_of_gt hil)).trans (Heap.get?_push_size _ rfl)
  · exact (Heap.get?_update_ne _ _ _ _ hb).trans (Heap.get?_push_of_some _ e)
theorem next_start {it pool : Addr} {last : Value} {idx : List Nat} {us : List Value} {Q : Option Value → Shared → Prop} (hit : IsComb s.heap it pool 0 last idx) (hp : s.heap.IsTuple pool us.toArray) (hne : pool ≠ it) (hlen : idx.length ≤ 1000)
    (hQ : ∀ h', IsComb h' it pool 1 (.ref s.heap.objs.size) idx → h'.get? s.heap.objs.size = some { cls := .type "tuple", data := .seq (idx.map fun i => us.getD i .none).toArray } → (∀ b o, b ≠ it → s.heap.get? b = some o → h'.get? b = some o) →
      Q (some (.ref s.heap.objs.size)) { s with heap := h' }) : wpAny (model prog w) A (pyNext (.ref it)) Q E s := by
  have hT : s.TypeIs (.ref it) "itertools.combinations" := ⟨_, hit, rfl⟩
  have hil : it < s.heap.objs.size := Heap.lt_size hit
  unfold pyNext
  refine wpAny_bind (wpAny_attempt (wpAny_callSpecial?_slot (name := Str.ofString "__next__") hT slot_c_next (wpAny_call_entry slot_c_next hT entry_c_next ?_ (args_c_next _))))
  show wpAny _ _ (field (.ref it) 0 >>= _) _ _ s
  refine wpAny_bind (wpAny_field hit rfl f0 ?_)
  show wpAny _ _ (Builtin.Itertools.itNumbersFrom (.ref it) 3 >>= _) _ _ s
  refine wpAny_bind ?_
  show wpAny _ _ (load it >>= _) _ _ s
  refine wpAny_bind (wpAny_load hit ?_)
  refine wpAny_pure ?_
  generalize hg : List.map _ (List.drop 3 (Array.toList _)) = gl
  have eg : gl = idx := by
    rw [← hg, fdrop, List.map_map]
    exact List.map_id'' (fun n => Int.toNat_natCast n) idx
  subst eg
  show wpAny _ _ (Builtin.Itertools.itIntField (.ref it) 1 >>= _) _ _ s
  refine wpAny_bind ?_
  show wpAny _ _ (field (.ref it) 1 >>= _) _ _ s
  refine wpAny_bind (wpAny_field hit rfl f1 (wpAny_pure ?_))
  show wpAny _ _ (setField (.ref it) 1 (rawInt 1) >>= _) _ _ s
  refine wpAny_bind (wpAny_setField hit rfl (by simp) ?_)
  have hit1 := comb_upd (st' := 1) hit
  obtain ⟨op, hop, hc, n0, hd⟩ := id hp
  have hop1 : (s.heap.update it (Obj.mapFields fun x => x.setIfInBounds 1 (rawInt 1))).get? pool = some op := (Heap.get?_update_ne _ _ _ _ hne).trans hop
  have hp1 : (s.heap.update it (Obj.mapFields fun x => x.setIfInBounds 1 (rawInt 1))).IsTuple pool us.toArray := ⟨op, hop1, hc, n0, hd⟩
  have hz : (s.heap.update it (Obj.mapFields fun x => x.setIfInBounds 1 (rawInt 1))).objs.size = s.heap.objs.size := (Heap.SameBut.update s.heap it _).1
  refine hand (s := { s with heap := s.heap.update it (Obj.mapFields fun x => x.setIfInBounds 1 (rawInt 1)) }) (last := last) (us := us) hit1 hp1 hlen fun h' c1 c2 c3 => ?_
  rw [hz] at c1 c2
  refine ⟨_, by rw [hz], wpAny_pure (hQ h' c1 c2 fun b o hb e => c3 b o hb ((Heap.get?_update_ne _ _ _ _ hb).trans e))⟩
/-- the rising lists of r numbers from lo to n - 1, in their turn -/
def combsFrom (n : Nat) : Nat → Nat → List (List Nat)
  | 0, _ => [[]]
  | r + 1, lo => (List.range (n - lo)).flatMap fun i => (combsFrom n r (lo + i + 1)).map fun l => (lo + i) :: l
def combs (n r : Nat) : List (List Nat) := combsFrom n r 0
/-- f leads from each to the next -/
def chainB (f : Nat → List Nat → Option (List Nat)) (n : Nat) : List (List Nat) → Bool
  | [] => true
  | [x] => f n x == none
  | x :: y :: r => (f n x == some y) && chainB f n (y :: r)
/-- the end of a walk -/
theorem stop {Q : Option Value → Shared → Prop} (hh : A.handled = none) (hQ : ∀ h', (∀ b o, s.heap.get? b = some o → h'.get? b = some o) → Q none { s with heap := h' }) :
    wpAny (model prog w) A.in1 (Builtin.Itertools.itStop : Sem Fin) (fun fin s' => ∃ v, fin = .done (.ret v) ∧ wpAny (model prog w) A (match (Except.ok (some v) : Except Value (Option Value)) with
        | .ok (some v) => pure (some v)
        | .ok none => unsupported "iter:the-iterator's-class-has-lost-its-__next__-amid-the-walk"
        | .error e => do if (← isInstance e (.type "StopIteration")) then pure none else throw e) Q E s')
      (fun e s' => wpAny (model prog w) A (match (Except.error e : Except Value (Option Value)) with
        | .ok (some v) => pure (some v)
        | .ok none => unsupported "iter:the-iterator's-class-has-lost-its-__next__-amid-the-walk"
        | .error e => do if (← isInstance e (.type "StopIteration")) then pure none else throw e) Q E s') s := by
  unfold Builtin.Itertools.itStop
  refine wpAny_bind ?_
  simp only [newExc, newTuple]
  refine wpAny_bind (wpAny_newObj_type ?_ (by size_fits))
  refine wpAny_bind (m := firstArgMember _ _) (wpAny_of_eq (a := Value.none) (by first | rfl | (simp only [firstArgMember]; rfl)) ?_)
  refine wpAny_newObj_type ?_ (by size_fits)
  simp only [raiseNew]
  refine wpAny_bind (wpAny_handled ?_)
  first | rw [show A.in1.handled = none from hh] | rw [hh]
  refine wpAny_bind (wpAny_pure (wpAny_throw ?_))
  refine wpAny_bind (wpAny_isInstance (T := "StopIteration") (b := true) ⟨_, Heap.get?_push_size _ rfl, rfl⟩ isSubtype_stop ?_)
  exact wpAny_pure (hQ _ fun b o e => Heap.get?_push_of_some _ (Heap.get?_push_of_some _ e))
/-- the pools and lengths that are told -/
def inB (n r : Nat) : Bool := (decide (n < 11) && decide (r < 4)) || (decide (n < 43) && decide (r = 2))
theorem inB_cases {n r : Nat} (h : inB n r = true) : (n < 11 ∧ r < 4) ∨ (n < 43 ∧ r = 2) := by
  unfold inB at h
  rw [Bool.or_eq_true, Bool.and_eq_true, Bool.and_eq_true] at h
  exact h.imp (fun h => ⟨of_decide_eq_true h.1, of_decide_eq_true h.2⟩) fun h => ⟨of_decide_eq_true h.1, of_decide_eq_true h.2⟩
theorem inB_of {n r : Nat} (hn : n < 11) (hr : r < 4) : inB n r = true := by
  unfold inB
  rw [decide_eq_true hn, decide_eq_true hr]
  rfl
theorem inB_two {n : Nat} (hn : n < 43) : inB n 2 = true := by
  unfold inB
  rw [decide_eq_true hn]
  simp
theorem by_inB {p : Nat → Nat → Prop} (h1 : ∀ n, n < 11 → ∀ r, r < 4 → p n r) (h2 : ∀ n, n < 43 → p n 2) : ∀ n r, inB n r = true → p n r := fun n r h => by
  rcases inB_cases h with ⟨a, b⟩ | ⟨a, rfl⟩
  · exact h1 n a r b
  · exact h2 n a
theorem nx_ex : ∃ f : Nat → List Nat → Option (List Nat),
    (∀ (prog : Program) (w : World) (A : Around) (E : Value → Shared → Prop) (s : Shared) (it pool : Addr) (last : Value) (idx idx' : List Nat) (us : List Value) (Q : Option Value → Shared → Prop), IsComb s.heap it pool 1 last idx → s.heap.IsTuple pool us.toArray → pool ≠ it → idx'.length ≤ 1000 → f us.length idx = some idx' →
      (∀ h', IsComb h' it pool 1 (.ref s.heap.objs.size) idx' → h'.get? s.heap.objs.size = some { cls := .type "tuple", data := .seq (idx'.map fun i => us.getD i .none).toArray } → (∀ b o, b ≠ it → s.heap.get? b = some o → h'.get? b = some o) →
        Q (some (.ref s.heap.objs.size)) { s with heap := h' }) → wpAny (model prog w) A (pyNext (.ref it)) Q E s) ∧
    (∀ (prog : Program) (w : World) (A : Around) (E : Value → Shared → Prop) (s : Shared) (it pool : Addr) (last : Value) (idx : List Nat) (us : List Value) (Q : Option Value → Shared → Prop), A.handled = none → IsComb s.heap it pool 1 last idx → s.heap.IsTuple pool us.toArray → pool ≠ it → f us.length idx = none →
      (∀ h', (∀ b o, b ≠ it → s.heap.get? b = some o → h'.get? b = some o) → Q none { s with heap := h' }) → wpAny (model prog w) A (pyNext (.ref it)) Q E s) ∧
    (∀ n r, inB n r = true → chainB f n (combs n r) = true) := by
  apply Exists.intro
  refine ⟨?_, ?_, ?_⟩
  · intro prog w A E s it pool last idx idx' us Q hit hp hne hlen hf hQ
    have hT : s.TypeIs (.ref it) "itertools.combinations" := ⟨_, hit, rfl⟩
    have hil : it < s.heap.objs.size := Heap.lt_size hit
    obtain ⟨op, hop, hc, n0, hd⟩ := id hp
    unfold pyNext
    refine wpAny_bind (wpAny_attempt (wpAny_callSpecial?_slot (name := Str.ofString "__next__") hT slot_c_next (wpAny_call_entry slot_c_next hT entry_c_next ?_ (args_c_next _))))
    show wpAny _ _ (field (.ref it) 0 >>= _) _ _ s
    refine wpAny_bind (wpAny_field hit rfl f0 ?_)
    show wpAny _ _ (Builtin.Itertools.itNumbersFrom (.ref it) 3 >>= _) _ _ s
    refine wpAny_bind ?_
    show wpAny _ _ (load it >>= _) _ _ s
    refine wpAny_bind (wpAny_load hit ?_)
    refine wpAny_pure ?_
    generalize hg : List.map _ (List.drop 3 (Array.toList _)) = gl
    have eg : gl = idx := by
      rw [← hg, fdrop, List.map_map]
      exact List.map_id'' (fun n => Int.toNat_natCast n) idx
    subst eg
    show wpAny _ _ (Builtin.Itertools.itIntField (.ref it) 1 >>= _) _ _ s
    refine wpAny_bind ?_
    show wpAny _ _ (field (.ref it) 1 >>= _) _ _ s
    refine wpAny_bind (wpAny_field hit rfl f1 (wpAny_pure ?_))
    show wpAny _ _ (Builtin.Itertools.itPoolItems (.ref pool) >>= _) _ _ s
    refine wpAny_bind ?_
    show wpAny _ _ (seqItems? (.ref pool) >>= _) _ _ s
    refine wpAny_bind (wpAny_seqItems hop hd (wpAny_pure ?_))
    have ez : us.toArray.size = us.length := by simp
    rw [ez]
    split
    · rename_i nx heq
      have e : nx = idx' := Option.some.inj (heq.symm.trans hf)
      subst e
      show wpAny _ _ (Builtin.Itertools.itSetNumbersFrom (.ref it) 3 nx >>= _) _ _ s
      refine wpAny_bind ?_
      show wpAny _ _ (updateFields it _) _ _ s
      refine wpAny_updateFields hit rfl ?_ (by show Array.size _ ≤ sizeLine + 3; rw [sizeLine_eq]; simp; omega)
      have hit1 := comb_upd3 (idx' := nx) hit
      have hz : ∀ f, (s.heap.update it (Obj.mapFields f)).objs.size = s.heap.objs.size := fun f => (Heap.SameBut.update s.heap it _).1
      have hp1 : ∀ f, (s.heap.update it (Obj.mapFields f)).IsTuple pool us.toArray := fun f => ⟨op, (Heap.get?_update_ne _ _ _ _ hne).trans hop, hc, n0, hd⟩
      refine hand (s := { s with heap := s.heap.update it (Obj.mapFields _) }) (last := last) (us := us) hit1 (hp1 _) hlen fun h' c1 c2 c3 => ?_
      rw [hz] at c1 c2
      refine ⟨_, by rw [hz], wpAny_pure (hQ h' c1 c2 fun b o hb e => c3 b o hb ((Heap.get?_update_ne _ _ _ _ hb).trans e))⟩
    · rename_i heq
      cases heq.symm.trans hf
  · intro prog w A E s it pool last idx us Q hh hit hp hne hf hQ
    have hT : s.TypeIs (.ref it) "itertools.combinations" := ⟨_, hit, rfl⟩
    have hil : it < s.heap.objs.size := Heap.lt_size hit
    obtain ⟨op, hop, hc, n0, hd⟩ := id hp
    unfold pyNext
    refine wpAny_bind (wpAny_attempt (wpAny_callSpecial?_slot (name := Str.ofString "__next__") hT slot_c_next (wpAny_call_entry slot_c_next hT entry_c_next ?_ (args_c_next _))))
    show wpAny _ _ (field (.ref it) 0 >>= _) _ _ s
    refine wpAny_bind (wpAny_field hit rfl f0 ?_)
    show wpAny _ _ (Builtin.Itertools.itNumbersFrom (.ref it) 3 >>= _) _ _ s
    refine wpAny_bind ?_
    show wpAny _ _ (load it >>= _) _ _ s
    refine wpAny_bind (wpAny_load hit ?_)
    refine wpAny_pure ?_
    generalize hg : List.map _ (List.drop 3 (Array.toList _)) = gl
    have eg : gl = idx := by
      rw [← hg, fdrop, List.map_map]
      exact List.map_id'' (fun n => Int.toNat_natCast n) idx
    subst eg
    show wpAny _ _ (Builtin.Itertools.itIntField (.ref it) 1 >>= _) _ _ s
    refine wpAny_bind ?_
    show wpAny _ _ (field (.ref it) 1 >>= _) _ _ s
    refine wpAny_bind (wpAny_field hit rfl f1 (wpAny_pure ?_))
    show wpAny _ _ (Builtin.Itertools.itPoolItems (.ref pool) >>= _) _ _ s
    refine wpAny_bind ?_
    show wpAny _ _ (seqItems? (.ref pool) >>= _) _ _ s
    refine wpAny_bind (wpAny_seqItems hop hd (wpAny_pure ?_))
    have ez : us.toArray.size = us.length := by simp
    rw [ez]
    split
    · rename_i nx heq
      cases heq.symm.trans hf
    · rename_i heq
      show wpAny _ _ (setField (.ref it) 1 (rawInt 2) >>= _) _ _ s
      refine wpAny_bind (wpAny_setField hit rfl (by simp) ?_)
      have sb : Heap.ExtBut it s.heap (s.heap.update it (Obj.mapFields fun x => x.setIfInBounds 1 (rawInt 2))) := (Heap.SameBut.update ..).extBut
      exact stop (s := { s with heap := s.heap.update it (Obj.mapFields fun x => x.setIfInBounds 1 (rawInt 2)) }) hh fun h' eb => hQ h' fun b o hb e => eb b o (sb b o hb e)
  · exact by_inB (by decide +kernel) (by decide +kernel)
theorem next_never {it pool : Addr} {last : Value} {idx : List Nat} {Q : Option Value → Shared → Prop} (hh : A.handled = none) (hit : IsComb s.heap it pool 2 last idx)
    (hQ : ∀ h', (∀ b o, b ≠ it → s.heap.get? b = some o → h'.get? b = some o) → Q none { s with heap := h' }) : wpAny (model prog w) A (pyNext (.ref it)) Q E s := by
  have hT : s.TypeIs (.ref it) "itertools.combinations" := ⟨_, hit, rfl⟩
  unfold pyNext
  refine wpAny_bind (wpAny_attempt (wpAny_callSpecial?_slot (name := Str.ofString "__next__") hT slot_c_next (wpAny_call_entry slot_c_next hT entry_c_next ?_ (args_c_next _))))
  show wpAny _ _ (field (.ref it) 0 >>= _) _ _ s
  refine wpAny_bind (wpAny_field hit rfl f0 ?_)
  show wpAny _ _ (Builtin.Itertools.itNumbersFrom (.ref it) 3 >>= _) _ _ s
  refine wpAny_bind ?_
  show wpAny _ _ (load it >>= _) _ _ s
  refine wpAny_bind (wpAny_load hit ?_)
  refine wpAny_pure ?_
  show wpAny _ _ (Builtin.Itertools.itIntField (.ref it) 1 >>= _) _ _ s
  refine wpAny_bind ?_
  show wpAny _ _ (field (.ref it) 1 >>= _) _ _ s
  refine wpAny_bind (wpAny_field hit rfl f1 (wpAny_pure ?_))
  show wpAny _ _ (rule _ >>= _) _ _ s
  refine wpAny_bind (wpAny_rule ?_)
  exact stop hh fun h' eb => hQ h' fun b o _ e => eb b o e
end
end DvC

namespace Dv
open PySem PySem.Spec L2
open PyProof.Rows hiding St
open DvC
/-- the lists of L, one behind the other, each a new tuple -/
def Icb (L : List (List Nat)) : It :=
  ⟨fun i _ => i < L.length, fun i H v H' => ∃ Tp l, v = .ref Tp ∧ H Tp = none ∧ H' = upd H Tp (.tup (l.map fun (j : Nat) => V.int j)) ∧ L[i]? = some l, fun i _ => i = L.length⟩
/-- what is asked of L: that it is what combinations hands out of n things, r at a time -/
structure Cmb (f : Nat → List Nat → Option (List Nat)) (n r : Nat) (L : List (List Nat)) : Prop where
  none : n < r → L = []
  fst : r ≤ n → L[0]? = some (List.range r)
  nxt : ∀ i l, L[i]? = some l → f n l = L[i + 1]?
  lt : ∀ l ∈ L, l.length ≤ 1000 ∧ ∀ j ∈ l, j < n
theorem chain_nxt {f : Nat → List Nat → Option (List Nat)} {n : Nat} : ∀ {L : List (List Nat)}, chainB f n L = true → ∀ i l, L[i]? = some l → f n l = L[i + 1]?
  | [], _, i, l, h => by simp at h
  | [x], c, i, l, h => by
    cases i with
    | zero =>
      simp at h
      subst h
      unfold chainB at c
      simpa using c
    | succ i => simp at h
  | x :: y :: r, c, i, l, h => by
    unfold chainB at c
    rw [Bool.and_eq_true] at c
    cases i with
    | zero =>
      simp at h
      subst h
      simpa using c.1
    | succ i =>
      have q := chain_nxt (L := y :: r) c.2 i l (by simpa using h)
      simpa using q
def okC (n r : Nat) : Bool := (if n < r then (combs n r).isEmpty else (combs n r).head? == some (List.range r)) && (combs n r).all fun l => decide (l.length ≤ 1000) && l.all fun j => decide (j < n)
theorem okC_all : ∀ n, n < 11 → ∀ r, r < 4 → okC n r = true := by decide +kernel
theorem okC_in : ∀ n r, inB n r = true → okC n r = true := by_inB okC_all (by decide +kernel)
theorem cmb_of {f : Nat → List Nat → Option (List Nat)} {n r : Nat} (ch : chainB f n (combs n r) = true) (ok : okC n r = true) : Cmb f n r (combs n r) := by
  unfold okC at ok
  rw [Bool.and_eq_true] at ok
  obtain ⟨h1, h2⟩ := ok
  refine ⟨fun h => ?_, fun h => ?_, chain_nxt ch, fun l hl => ?_⟩
  · rw [if_pos h] at h1
    exact List.isEmpty_iff.mp h1
  · rw [if_neg (by omega)] at h1
    rw [← List.head?_eq_getElem?]
    exact eq_of_beq h1
  · have q := List.all_eq_true.mp h2 l hl
    rw [Bool.and_eq_true] at q
    exact ⟨of_decide_eq_true q.1, fun j hj => of_decide_eq_true (List.all_eq_true.mp q.2 j hj)⟩
theorem vals_ix {n : Nat} {us : List Value} (hv : Vals ((List.range n).map fun (j : Nat) => V.int j) us) : ∀ {l : List Nat}, (∀ j ∈ l, j < n) → Vals (l.map fun (j : Nat) => V.int j) (l.map fun j => us.getD j .none)
  | [], _ => .nil
  | j :: r, h => by
    have hj := h j (List.mem_cons_self ..)
    obtain ⟨u, h1, h2⟩ := hv.get (i := j) (x := .int j) (by simp [hj])
    refine .cons ?_ (vals_ix hv fun k hk => h k (List.mem_cons_of_mem _ hk))
    show L2.RelV (.int j) (us.getD j .none)
    rw [List.getD_eq_getElem?_getD, h1]
    exact h2
def cst (it pool : Addr) (n r : Nat) (L : List (List Nat)) : Nat → Heap → Prop
  | 0, h => IsComb h it pool (if r > n then 2 else 0) .none (List.range r)
  | i + 1, h => ∃ last l, L[i]? = some l ∧ IsComb h it pool 1 last l
theorem cst_at {it pool : Addr} {n r : Nat} {L : List (List Nat)} : ∀ {i : Nat} {h : Heap}, cst it pool n r L i h → ∃ st last l, IsComb h it pool st last l
  | 0, h, q => ⟨_, _, _, q⟩
  | i + 1, h, ⟨last, l, _, q⟩ => ⟨_, _, _, q⟩
theorem turn_comb {P : Program} {w : World} {K : PySem.W.Frag} {tg : Expr} {f : Nat → List Nat → Option (List Nat)} {n r : Nat} {L : List (List Nat)} (it pool : Addr) (hne : pool ≠ it) (us : List Value) (hv : Vals ((List.range n).map fun (j : Nat) => V.int j) us) (hr : r ≤ 1000) (C : Cmb f n r L)
    (nx1 : ∀ (prog : Program) (w : World) (A : Around) (E : Value → Shared → Prop) (s : Shared) (it pool : Addr) (last : Value) (idx idx' : List Nat) (us : List Value) (Q : Option Value → Shared → Prop), IsComb s.heap it pool 1 last idx → s.heap.IsTuple pool us.toArray → pool ≠ it → idx'.length ≤ 1000 → f us.length idx = some idx' →
      (∀ h', IsComb h' it pool 1 (.ref s.heap.objs.size) idx' → h'.get? s.heap.objs.size = some { cls := .type "tuple", data := .seq (idx'.map fun i => us.getD i .none).toArray } → (∀ b o, b ≠ it → s.heap.get? b = some o → h'.get? b = some o) →
        Q (some (.ref s.heap.objs.size)) { s with heap := h' }) → wpAny (model prog w) A (pyNext (.ref it)) Q E s)
    (nx2 : ∀ (prog : Program) (w : World) (A : Around) (E : Value → Shared → Prop) (s : Shared) (it pool : Addr) (last : Value) (idx : List Nat) (us : List Value) (Q : Option Value → Shared → Prop), A.handled = none → IsComb s.heap it pool 1 last idx → s.heap.IsTuple pool us.toArray → pool ≠ it → f us.length idx = none →
      (∀ h', (∀ b o, b ≠ it → s.heap.get? b = some o → h'.get? b = some o) → Q none { s with heap := h' }) → wpAny (model prog w) A (pyNext (.ref it)) Q E s) :
    Turn P w K tg (Icb L) [it, pool] it (fun i h => h.IsTuple pool us.toArray ∧ cst it pool n r L i h) where
  mem := by simp
  obj := fun i h st b hb => by
    obtain ⟨⟨o, ho, hc, n0, hd⟩, q⟩ := st
    obtain ⟨st', last, l, q⟩ := cst_at q
    have e' : b = it ∨ b = pool := by simpa using hb
    rcases e' with z | z
    · rw [z]; exact ⟨_, q, fun v q => nomatch q⟩
    · rw [z]; exact ⟨o, ho, fun v q => by rw [hd] at q; cases q⟩
  keep := fun i h h' st k => by
    obtain ⟨hp, q⟩ := st
    refine ⟨hp.at fun o e => k pool (by simp) o e, ?_⟩
    cases i with
    | zero => exact k it (by simp) _ q
    | succ i =>
      obtain ⟨last, l, e, q⟩ := q
      exact ⟨last, l, e, k it (by simp) _ q⟩
  item := by
    intro X hP hw hK hc i pins s σ H E I hf st hg
    subst hP hw hK
    obtain ⟨hp, q⟩ := st
    have hg : i < L.length := hg
    have hlen : us.length = n := by
      have := hv.length
      simpa using this.symm
    have hl : L[i]? = some L[i] := List.getElem?_eq_getElem hg
    obtain ⟨c1, c2⟩ := C.lt _ (List.getElem_mem hg)
    have hpl : pool < s.heap.objs.size := by
      obtain ⟨o, ho, _⟩ := id hp
      exact Heap.lt_size ho
    have hil : it < s.heap.objs.size := by
      obtain ⟨_, _, _, q⟩ := cst_at q
      exact Heap.lt_size q
    -- what stands behind a turn
    have fin : ∀ h', IsComb h' it pool 1 (.ref s.heap.objs.size) L[i] → h'.get? s.heap.objs.size = some { cls := .type "tuple", data := .seq (L[i].map fun j => us.getD j .none).toArray } → (∀ b o, b ≠ it → s.heap.get? b = some o → h'.get? b = some o) →
        wpAny (model X.prog X.w) X.A (letOwnedTupleGo tg (.ref it) (.ref s.heap.objs.size)) (fun _ s2 => ∃ x H', Inv X pins σ H' s2 ∧ RelV x (.ref s.heap.objs.size) ∧ (Icb L).yld i H x H' ∧ (s2.heap.IsTuple pool us.toArray ∧ cst it pool n r L (i + 1) s2.heap) ∧ ∀ b ∈ [it, pool], H' b = none) E { s with heap := h' } := fun h' a b k => by
      refine go_of (s := { s with heap := h' }) (n := "itertools.combinations") a rfl rfl (by decide) ?_
      have new : ObjOk X.prog X.w (upd H s.heap.objs.size (.tup (L[i].map fun (j : Nat) => V.int j))) h' s.heap.objs.size (.tup (L[i].map fun (j : Nat) => V.int j)) :=
        ⟨by rw [List.length_map, sizeLine_eq]; omega, _, vals_ix hv c2, ⟨_, b, rfl, _, rfl⟩⟩
      have I1 : Inv X pins σ (upd H s.heap.objs.size (.tup (L[i].map fun (j : Nat) => V.int j))) { s with heap := h' } :=
        I.turnedNew (t' := s.toks) (ch := [it, pool]) (fun c o hb q => k c o (fun z => hb (by simp [z])) q) hf (Nat.le_refl _) new
      refine ⟨.ref s.heap.objs.size, _, I1, rfl, ⟨_, L[i], rfl, I.hok.fresh (Nat.le_refl _), rfl, hl⟩, ⟨hp.at fun o e => k pool o hne e, _, L[i], hl, a⟩, fun c hcm => ?_⟩
      have hlt : c < s.heap.objs.size := by
        have e' : c = it ∨ c = pool := by simpa using hcm
        rcases e' with z | z
        · rw [z]; exact hil
        · rw [z]; exact hpl
      rw [upd_ne (Nat.ne_of_lt hlt)]
      exact (hf c hcm).1
    cases i with
    | zero =>
      have hrn : r ≤ n := by
        cases Nat.lt_or_ge n r with
        | inl z => rw [C.none z] at hg; exact absurd hg (Nat.not_lt_zero _)
        | inr z => exact z
      have e0 : List.range r = L[0] := Option.some.inj ((C.fst hrn).symm.trans hl)
      have q' : IsComb s.heap it pool 0 .none (List.range r) := by
        have q2 : IsComb s.heap it pool (if r > n then 2 else 0) .none (List.range r) := q
        rw [if_neg (by omega)] at q2
        exact q2
      rw [e0] at q'
      exact next_start q' hp hne c1 fun h' a b k => ⟨_, rfl, fin h' a b k⟩
    | succ i =>
      obtain ⟨last, l, e, q⟩ := q
      exact nx1 _ _ _ _ s it pool last l L[i + 1] us _ q hp hne c1 (by rw [hlen, C.nxt i l e]; exact hl) fun h' a b k => ⟨_, rfl, fin h' a b k⟩
  done := by
    intro X hP hw hK hc i pins s σ H E I hf st hg
    subst hP hw hK
    obtain ⟨hp, q⟩ := st
    have hg : i = L.length := hg
    have hlen : us.length = n := by
      have := hv.length
      simpa using this.symm
    obtain ⟨f0, f1, f2, f3, f4, f5⟩ := hf it (by simp)
    have fin : ∀ h', (∀ b o, b ≠ it → s.heap.get? b = some o → h'.get? b = some o) → Inv X pins σ H { s with heap := h' } := fun h' k => I.turned (t' := s.toks) (fun b o hb e => k b o hb e) f0 f1 f3 f4 f5
    cases i with
    | zero =>
      have hrn : n < r := by
        cases Nat.lt_or_ge n r with
        | inl z => exact z
        | inr z =>
          have := C.fst z
          rw [List.getElem?_eq_none (by omega)] at this
          cases this
      have q' : IsComb s.heap it pool 2 .none (List.range r) := by
        have q2 : IsComb s.heap it pool (if r > n then 2 else 0) .none (List.range r) := q
        rw [if_pos hrn] at q2
        exact q2
      exact next_never (I.ok.hd hc) q' fun h' k => ⟨rfl, fin h' k⟩
    | succ i =>
      obtain ⟨last, l, e, q⟩ := q
      exact nx2 _ _ _ _ s it pool last l us _ (I.ok.hd hc) q hp hne (by rw [hlen, C.nxt i l e]; exact List.getElem?_eq_none (by omega)) fun h' k => ⟨rfl, fin h' k⟩
  self := fun A i s Q E st h => by
    obtain ⟨_, q⟩ := st
    obtain ⟨_, _, _, q⟩ := cst_at q
    exact iter_comb q h
/-- for .. in combinations(range(n), r) -/
def iComb (ta ts : TE) : TI := fun σ H R => ta σ H fun x H1 => ∃ n : Nat, x = .int n ∧ ts σ H1 fun v H2 => ∃ r : Nat, v = .int r ∧ inB n r = true ∧ R (Icb (combs n r)) H2
theorem pi_comb {X : Cx} {tg a e2 : Expr} {ta ts : TE} {p p2 pos pos2 : Pos} (hc : X.calm = true) (hg : Gl X "combinations") (hm : X.mg "combinations" = some (.type "itertools.combinations")) (hgr : Gl X "range") (hmr : X.mg "range" = none) (ha : PE X a ta) (hs : PE X e2 ts)
    (na : starEach [.Call (.Name "range" p2) [a] [] pos2, e2] X.env = (false, eval (.Call (.Name "range" p2) [a] [] pos2) X.env) :: starEach [e2] X.env := by rfl) (nb : starEach [e2] X.env = (false, eval e2 X.env) :: starEach [] X.env := by rfl) (hpl : (backTo pos (starEach [e2] X.env)).any (·.1) = false := by rfl)
    (nr : starEach [a] X.env = (false, eval a X.env) :: starEach [] X.env := by rfl) :
    PI X tg (.Call (.Name "combinations" p) [.Call (.Name "range" p2) [a] [] pos2, e2] [] pos) (iComb ta ts) := by
  refine ⟨fun pins s σ H R I h => ?_⟩
  obtain ⟨f, nx1, nx2, ch⟩ := nx_ex
  refine Call_ (ld_glob I hg hm (PyProof.Rows.callWith_type1 (args_cons ?_ na) na hpl))
  refine Call_ (ld_blt I hgr hmr PyProof.Rows.boot_range (PyProof.Rows.callWith_type1 (one_arg ha I h (fun u s1 x H1 I1 r1 q1 => ?_) nr) nr))
  obtain ⟨n, rfl, q1⟩ := q1
  obtain ⟨t, rfl⟩ := r1
  refine call_range_1 ?_
  have hsz : s1.heap.objs.size ≤ s1.heap.objs.size := Nat.le_refl _
  have hn1 : H1 s1.heap.objs.size = none := I1.hok.fresh hsz
  obtain ⟨g0, g1, g2, g3, g4, g5⟩ := I1.fpOk hsz hn1
  let ro : Obj := { cls := .type "range", data := .fields #[.int 0 s1.toks, .int (n : Nat) t, .int 1 (s1.toks + 1)] }
  have I1' : Inv X pins σ H1 { s1 with heap := s1.heap.push ro, toks := s1.toks + 1 + 1 } := I1.kept fun b o e => Heap.get?_push_of_some _ e
  have I1p : Inv X ((s1.heap.objs.size, ro) :: pins) σ H1 { s1 with heap := s1.heap.push ro, toks := s1.toks + 1 + 1 } := I1'.pins_of fun q hq => by
    rcases List.mem_cons.mp hq with z | z
    · subst z
      exact ⟨Heap.get?_push_size _ rfl, g0, g1, g2, fun v z => nomatch z⟩
    · exact I1'.pin q (List.mem_append_right _ z)
  refine args_cons (thn (hs.run _ _ σ H1 _ I1p q1) fun kv s2 ⟨y, H2, I2, r2, q2⟩ => args_nil ?_) nb
  obtain ⟨r, rfl, hin, q3⟩ := q2
  have hb : n < 43 ∧ r < 4 := by rcases inB_cases hin with z | z <;> omega
  obtain ⟨hn, hr4⟩ := hb
  obtain ⟨tk0, rfl⟩ := r2
  obtain ⟨hro, _⟩ := I2.pin (s1.heap.objs.size, ro) (List.mem_append_right _ (List.mem_cons_self ..))
  have I3 : Inv X pins σ H2 s2 := I2.pins_of fun q hq => I2.pin q (List.mem_append_right _ (List.mem_cons_of_mem _ hq))
  have hr2 : IsRange s2.heap s1.heap.objs.size 0 (n : Nat) 1 s1.toks t (s1.toks + 1) := hro
  refine call_comb (n := n) (k := r) (I3.ok.hd hc) hr2 (small_one (by omega) (by omega) (by omega) (by omega)) (rangeSize_nat 0 n) (by omega) (by omega) fun h' tk acc hk hi => ?_
  have C : Cmb f n r (combs n r) := cmb_of (ch n r hin) (okC_in n r hin)
  have hvals : Vals ((List.range n).map fun (j : Nat) => V.int j) acc.toList := by
    have e0 : ((n : Int) - 0).toNat = n := by omega
    have hi2 : ItemsOf (fun i v => ∃ t, v = .int (0 + i * 1) t) acc ((n : Int) - 0).toNat := by
      rw [e0]
      exact hi
    have e := vals_rg (a := 0) (b := n) (acc := acc) hi2
    unfold rgV at e
    rw [e0] at e
    have e3 : ((List.range n).map fun (i : Nat) => V.int (0 + (i : Nat))) = (List.range n).map fun (j : Nat) => V.int j := List.map_congr_left fun i _ => by rw [Int.zero_add]
    rw [e3] at e
    exact e
  have e2' : (h'.push { cls := .type "tuple", data := .seq acc }).objs.size = h'.objs.size + 1 := Heap.size_push ..
  have I4 : Inv X pins σ H2 { s2 with heap := (h'.push { cls := .type "tuple", data := .seq acc }).push (cObj h'.objs.size (if r > n then 2 else 0) .none (List.range r)), toks := tk } :=
    I3.kept fun b o e => Heap.get?_push_of_some _ (Heap.get?_push_of_some _ (hk b o e))
  have I5 : Inv X pins σ H2 { s2 with heap := h', toks := tk } := I3.kept hk
  have hit : IsComb ((h'.push { cls := .type "tuple", data := .seq acc }).push (cObj h'.objs.size (if r > n then 2 else 0) .none (List.range r))) (h'.objs.size + 1) h'.objs.size (if r > n then 2 else 0) .none (List.range r) := by
    rw [← e2']
    exact Heap.get?_push_size _ rfl
  have hpool : ((h'.push { cls := .type "tuple", data := .seq acc }).push (cObj h'.objs.size (if r > n then 2 else 0) .none (List.range r))).IsTuple h'.objs.size acc.toList.toArray := by
    rw [Array.toArray_toList]
    exact ⟨_, Heap.get?_push_of_some _ (Heap.get?_push_size _ rfl), rfl, _, rfl⟩
  refine iter_comb hit ?_
  refine ⟨h'.objs.size + 1, [h'.objs.size + 1, h'.objs.size], _, _, H2, rfl, I4, turn_comb (h'.objs.size + 1) h'.objs.size (Nat.ne_of_lt (Nat.lt_succ_self _)) acc.toList hvals (by omega) C nx1 nx2, ⟨hpool, hit⟩, fun b hb => ?_, q3⟩
  have e' : b = h'.objs.size + 1 ∨ b = h'.objs.size := by simpa using hb
  have hle : h'.objs.size ≤ b := by
    rcases e' with z | z
    · rw [z]; exact Nat.le_add_right _ _
    · rw [z]; exact Nat.le_refl _
  exact I5.fpOk hle (I5.hok.fresh hle)
theorem walk_comb {L : List (List Nat)} : Walk (Icb L) L.length (fun _ => True) (fun i H v H' => ∃ Tp l, v = .ref Tp ∧ H Tp = none ∧ H' = upd H Tp (.tup (l.map fun (j : Nat) => V.int j)) ∧ L[i]? = some l) :=
  ⟨fun _ _ hi _ => hi, fun _ _ => rfl, fun _ _ _ _ _ _ y => y⟩
/-- a list of numbers as a tuple -/
def lotD (l : List Nat) : PyData := .tuple (l.map fun (j : Nat) => .int j)
theorem d_ints {K : PySem.W.Frag} {T : List (Addr × Str)} {W : Wd K T} {H : Hp} : ∀ l : List Nat, DAll W H (l.map fun (j : Nat) => V.int j) (l.map fun (j : Nat) => PyData.int j)
  | [] => .nil
  | j :: r => .cons (.int _) (d_ints r)
theorem i_comb {K : PySem.W.Frag} {T : List (Addr × Str)} {G : Ctx} {ta ts : TE} {n r : Nat} (h : E K T ta G (· = .int n)) (h2 : E K T ts G (· = .int r)) (hin : inB n r = true) : Iwd K T (iComb ta ts) G ((combs n r).map lotD) := by
  unfold Iwd
  rw [List.length_map]
  intro W σ H s j R k
  refine h W σ H s j _ fun x d H1 e1 j1 dx px => ?_
  subst px
  refine ⟨n, dx.int_inv, h2 W σ H1 (s.mono e1) j1 _ fun y d2 H2 e2 j2 dy py => ?_⟩
  subst py
  refine ⟨r, dy.int_inv, hin, k (Icb (combs n r)) H2 _ _ (e1.trans e2) j2 walk_comb (fun _ _ _ _ => trivial) fun W2 i H3 v H4 c hi e3 j3 yv => ?_⟩
  obtain ⟨Tp, l, rfl, hT, rfl, hl⟩ := yv
  exact ⟨.new hT, j_new j3 hT, lotD l, .tup (new_ne j3 hT) upd_same (d_ints l), (by show ((combs n r).map lotD)[i]? = some (lotD l); rw [List.getElem?_map, hl]; rfl)⟩
end Dv

namespace Dv
open PySem PySem.Spec L2
open PyProof.Rows hiding St
section
variable {K : PySem.W.Frag} {T : List (Addr × Str)} {W W2 : Wd K T} {G : Ctx} {te : TE}
theorem flat_take {ds : List PyData} {i : Nat} {d : PyData} (h : ds[i]? = some d) (f : PyData → List PyData) : (ds.take (i + 1)).flatMap f = (ds.take i).flatMap f ++ f d := by
  rw [List.take_add_one, h, List.flatMap_append]
  congr 1
  show [d].flatMap f = f d
  simp
theorem flat_le {ds : List PyData} (f : PyData → List PyData) (i : Nat) : ((ds.take i).flatMap f).length ≤ (ds.flatMap f).length := by
  have e : ds.flatMap f = (ds.take i).flatMap f ++ (ds.drop i).flatMap f := by rw [← List.flatMap_append, List.take_append_drop]
  rw [e, List.length_append]
  exact Nat.le_add_right _ _
/-- two fors, no tests -/
theorem el_lc2D {wi wi1 : TI} {g g1 : TG} {vs vs1 : List Nat} {ds : List PyData} (es : PyData → List PyData) (v : PyData → PyData → PyData) (hi : Iwd K T wi G ds)
    (hs : ∀ d ∈ ds, ∃ G', Tg K T g vs d (wipeG G vs) G' ∧ Iwd K T wi1 G' (es d) ∧ ∀ e ∈ es d, ∃ G2, Tg K T g1 vs1 e (wipeG G' vs1) G2 ∧ E K T te G2 (· = v d e))
    (hn : (ds.flatMap fun d => (es d).map (v d)).length < 100000) : EL K T (tLc2 wi g tYes wi1 g1 tYes te vs vs1) G (· = ds.flatMap fun d => (es d).map (v d)) := fun W σ H s j Q q => hi W σ H s j _ fun J' H1 Gd Y e1 j1 w hG hY Dl hD => by
  have hp : ¬ W.X Dl := new_ne j1 hD
  let Pv : Nat → Hp → Prop := fun i H' => ∃ xs, Ex W H1 H' ∧ W.J H' ∧ H' Dl = some (.lst xs) ∧ DAll (W.hide Dl hp xs) H' xs ((ds.take i).flatMap fun d => (es d).map (v d))
  refine ⟨fun i m H => m = ds.length - i ∧ i ≤ ds.length ∧ Pv i H, ⟨ds.length, by simp, Nat.zero_le _, [], .new hD, j_new j1 hD, upd_same, by simp; exact .nil⟩, ?_⟩
  rintro i m H' ⟨rfl, hin, xs, e, j2, hl, al⟩
  have gd := hG W H' (.refl _) e
  by_cases hlt : i < ds.length
  · refine .inr ⟨w.goes i H' hlt gd, Pv (i + 1), fun H2 p' => ⟨ds.length - (i + 1), by omega, rfl, hlt, p'⟩, fun x H2 y => ?_⟩
    have y := w.yields i H' x H2 hlt gd y
    have s1 : Sl (W.hide Dl hp xs) H1 σ G := (s.mono e1).to (hide_out hD) rfl
    obtain ⟨e3, j3, d, dx, yx⟩ := hY (W.hide Dl hp xs) i H' x H2 (fun v d h => h.to (hide_out hD)) hlt (ex_hide e) ⟨j2, hl⟩ y
    obtain ⟨G', tg, hi1, hs1⟩ := hs d (List.mem_of_getElem? yx)
    refine tg (W.hide Dl hp xs) (L2.wipe σ vs) H2 x ((s1.mono ((ex_hide e).trans e3)).wipe vs) dx _ fun σ' s' hl' hk => ⟨(wipe_same hl' hk).trans wipe_wipe, iteT (B := Pv (i + 1) H2) ?_⟩
    refine hi1 (W.hide Dl hp xs) σ' H2 s' j3 _ fun J1 H4 Gd1 Y1 e4 j4 w1 hG1 hY1 => ?_
    have e14 : Ex W H1 H4 := hide_ex hD (((ex_hide e).trans e3).trans e4)
    let P1 : Nat → Hp → Prop := fun k H5 => ∃ ys, Ex (W.hide Dl hp ys) H4 H5 ∧ W.J H5 ∧ H5 Dl = some (.lst ys) ∧ DAll (W.hide Dl hp ys) H5 ys (((ds.take i).flatMap fun d => (es d).map (v d)) ++ ((es d).take k).map (v d))
    refine ⟨fun k m H => m = (es d).length - k ∧ k ≤ (es d).length ∧ P1 k H, ⟨(es d).length, by simp, Nat.zero_le _, xs, .refl _, j4.1, j4.2, ?_⟩, ?_⟩
    · have := (al.mono e3).mono e4
      simpa using this
    rintro k m H5 ⟨rfl, hkn, ys, e5, j5, hl5, al5⟩
    have cp1 : Cp (W.hide Dl hp xs) (W.hide Dl hp ys) H4 := fun v d h => D.to (W := W.hide Dl hp xs) (W2 := W.hide Dl hp ys) (fun _ _ _ n => n) h
    have gd1 := hG1 (W.hide Dl hp ys) H5 cp1 e5
    by_cases hk1 : k < (es d).length
    · refine .inr ⟨w1.goes k H5 hk1 gd1, P1 (k + 1), fun H6 p' => ⟨(es d).length - (k + 1), by omega, rfl, hk1, p'⟩, fun x1 H6 y1 => ?_⟩
      have y1 := w1.yields k H5 x1 H6 hk1 gd1 y1
      obtain ⟨e6, j6, d1, dx1, yx1⟩ := hY1 (W.hide Dl hp ys) k H5 x1 H6 cp1 hk1 e5 ⟨j5, hl5⟩ y1
      obtain ⟨G2, tg1, he⟩ := hs1 d1 (List.mem_of_getElem? yx1)
      have s4 : Sl (W.hide Dl hp ys) H4 σ' G' := Sl.to (W := W.hide Dl hp xs) (W2 := W.hide Dl hp ys) (fun _ _ _ n => n) rfl (s'.mono e4)
      refine tg1 (W.hide Dl hp ys) (L2.wipe σ' vs1) H6 x1 ((s4.mono (e5.trans e6)).wipe vs1) dx1 _ fun σ3 s3 hl3 hk3 => ⟨(wipe_same hl3 hk3).trans wipe_wipe, iteT (B := P1 (k + 1) H6) ?_⟩
      refine he _ σ3 H6 s3 j6 _ fun yv dy H7 e7 j7 dyv py => ⟨ys, j7.2, ?_, ys ++ [yv], ?_, W.ju j7.1 (.inr (.inl ⟨ys, j7.2⟩)) hp, upd_same, ?_⟩
      · rw [al5.length]
        refine Nat.lt_of_le_of_lt ?_ (show 100000 < sizeLine by decide)
        have z := flat_le (ds := ds) (fun d => (es d).map (v d)) (i + 1)
        rw [flat_take yx, List.length_append, List.length_map] at z
        rw [List.length_append, List.length_map, List.length_take]
        omega
      · have e57 : Ex (W.hide Dl hp ys) H4 H7 := (e5.trans e6).trans e7
        exact ⟨fun a o ha hn' hx => (Ex.out (W := W.hide Dl hp ys) e57 (Or.inr rfl)).k a o ha hn' hx⟩
      · refine hide_all (ys := ys) (DAll.mono (Ex.out (Ex.refl _) (show (W.hide Dl hp ys).X Dl from Or.inr rfl)) ?_)
        have ez : ((es d).take (k + 1)).map (v d) = ((es d).take k).map (v d) ++ [v d d1] := by
          rw [List.take_add_one, yx1, List.map_append]
          rfl
        rw [ez, ← List.append_assoc]
        subst py
        exact ((al5.mono e6).mono e7).append (.one dyv)
    · have ek : k = (es d).length := by omega
      subst ek
      have e15 : Ex (W.hide Dl hp ys) H1 H5 := (ex_hide e14).trans e5
      refine .inl ⟨w1.stops H5 gd1, ys, hide_ex hD e15, j5, hl5, ?_⟩
      rw [flat_take yx]
      rw [List.take_length] at al5
      exact al5
  · have ei : i = ds.length := by omega
    subst ei
    rw [List.take_length] at al
    exact .inl ⟨w.stops H' gd, q Dl xs _ H' ⟨H1, e1, hD, e⟩ j2 hp hl (al.to (W2 := W) fun _ _ _ n z => n (Or.inl z)) rfl⟩
end
end Dv

namespace DvS
open PySem PySem.Spec PySem.W PyProof.Rows
section
variable {prog : Program} {w : World} {A : Around} {s : Shared}
/-- ints as Python's values -/
theorem reads_ints {h : Heap} : ∀ {ns : List Int} {us : List Value}, L2.Vals (ns.map L2.V.int) us → ReadsAll h us (ns.map PyData.int) []
  | [], _, .nil => .nil
  | n :: r, _, .cons a t => by
    obtain ⟨tk, rfl⟩ := a
    exact ReadsAll.cons (as := []) (bs := []) (.int n tk) (reads_ints t)
/-- what the lambda's call needs of the heap -/
structure LamAt (h : Heap) (f c' : Addr) (qual y : Str) (params : Arguments) (body : Expr) (scope : Scope) (clos : List (Str × Addr)) (pm ctv : Value) (mg mb : Str → Option Value) : Prop where
  fo : h.get? f = some (kla_obj (Str.ofString "<lambda>") qual params body scope clos pm c' ctv)
  cr : h.CodeRec (.ref c') qual
  lim : h.NoLimit
  glob : h.Ns mainGlobals mg
  blt : h.Ns builtinsNs mb
theorem LamAt.keeps {h h' : Heap} {f c' : Addr} {qual y : Str} {params : Arguments} {body : Expr} {scope : Scope} {clos : List (Str × Addr)} {pm ctv : Value} {mg mb : Str → Option Value} (L : LamAt h f c' qual y params body scope clos pm ctv mg mb) (k : ∀ b o, h.get? b = some o → h'.get? b = some o) : LamAt h' f c' qual y params body scope clos pm ctv mg mb := by
  obtain ⟨c, o, vs, t, e, ho, hd, hv⟩ := L.cr
  exact ⟨k _ _ L.fo, ⟨c, o, vs, t, e, k _ _ ho, hd, hv⟩, L.lim.keeps k, L.glob.keeps k, L.blt.keeps k⟩
/-- lambda y: (len(y), y), called of a tuple of ints -/
theorem key_turn {f c' b : Addr} {qual y : Str} {params : Arguments} {scope : Scope} {clos : List (Str × Addr)} {pm ctv : Value} {mg mb : Str → Option Value} {p1 p2 p3 p4 p5 : Pos} {k : Nat} {ns : List Int} {us : List Value}
    (L : LamAt s.heap f c' qual y params (.Tuple [.Call (.Name (Str.ofString "len") p1) [.Name y p2] [] p3, .Name y p4] k p5) scope clos pm ctv mg mb) (hml : mg (Str.ofString "len") = none) (hvl : mb (Str.ofString "len") = some (.builtin "len"))
    (hbind : bindArgs (kla_fn (Str.ofString "<lambda>") qual params (.Tuple [.Call (.Name (Str.ofString "len") p1) [.Name y p2] [] p3, .Name y p4] k p5) scope clos pm (.ref c') ctv) ⟨[.ref b], []⟩ = pure [(y, .ref b)])
    (hy : scope.names.lookup y = some .local) (hl : scope.names.lookup (Str.ofString "len") = some .globalImplicit) (hcell : ∀ x ∈ scope.names, x.2 ≠ .cell) (hco : scope.isCoroutine = false) (hgen : scope.isGenerator = false) (hk : scope.kind = .function) (hdy : (y == ("__debug__" : Str)) = false)
    (hroom : A.depth < recursionLimit) (ht : IsTup s.heap b us.toArray) (hv : L2.Vals (ns.map L2.V.int) us) (hn : ns.length ≤ 1000) :
    wpAny (model prog w) A (call (.ref f) [.ref b]) (KeyPure (.tuple [.int ns.length, .tuple (ns.map .int)]) s) (fun _ _ => False) s := by
  refine wpAny_call (kla_callFunE hroom L.fo rfl hco hgen rfl L.cr ?_)
  rw [hbind]
  have lus : us.length = ns.length := by rw [← hv.length, List.length_map]
  refine wpAny_pure (wpAny_newFunctionEnv hcell (fun x hx => by rw [List.mem_singleton.mp hx]; exact hy) (fun h₁ hns hsb => ⟨L.lim.fresh _ hsb, kla_codeExpr ?_⟩) hk)
  have k1 : ∀ b o, s.heap.get? b = some o → h₁.get? b = some o := fun b o e => hsb.extBut b o (Nat.ne_of_lt (Heap.lt_size e)) (Heap.get?_push_of_some _ e)
  have L1 := L.keeps k1
  have t1 : IsTup h₁ b us.toArray := ht.keeps k1
  have hvy : ([(y, Value.ref b)] : List (Str × Value)).reverse.lookup y = some (.ref b) := by
    show List.lookup y [(y, Value.ref b)] = _
    rw [List.lookup_cons, beq_self_eq_true]
  refine wpAny_Tuple_spliced (args_cons (e := .Call (.Name (Str.ofString "len") p1) [.Name y p2] [] p3) (rest := [.Name y p4]) ?_ rfl)
  refine Call_ (Calls.Name_function_global hk hl (Calls.loadGlobal_builtin L1.glob hml L1.blt hvl ?_))
  refine PyProof.Rows.callWith_builtin1 (e := .Name y p2) (rest := []) (args_cons (wpAny_Name (wpAny_loadName_local hk hy hns hvy ?_) hdy) rfl) rfl rfl
  refine args_nil (len_tuple t1 (by rw [List.size_toArray, lus]; omega) ?_)
  refine args_cons (wpAny_Name (wpAny_loadName_local hk hy hns hvy ?_) hdy) rfl
  refine args_nil ⟨by show 2 ≤ sizeLine; decide, ?_⟩
  refine ⟨h₁.push _, _, rfl, fun b o e => Heap.get?_push_of_some _ (k1 b o e), ?_⟩
  refine Reads.tuple (as := []) (Heap.get?_push_size _ rfl) rfl rfl ?_
  obtain ⟨o, ho, hc, n, hd⟩ := t1
  have e1 : ((us.toArray.size : Nat) : Int) = ns.length := by rw [List.size_toArray, lus]
  refine ReadsAll.cons (as := []) (bs := []) ?_ (ReadsAll.cons (as := []) (bs := []) (.tuple (Heap.get?_push_of_some _ ho) hc hd (by rw [List.toList_toArray]; exact reads_ints hv)) .nil)
  rw [← e1]
  exact .int _ _
end
end DvS
namespace L2
open PySem PySem.Spec PySem.W PyProof.Rows LamX DvS
def lenKey (l : List Int) : PyData := .tuple [.int l.length, .tuple (l.map .int)]
/-- sorted(e, key=lambda y: (len(y), y)), e a list of tuples of ints -/
def tSortL (T : List (Addr × Str)) (K : PySem.W.Frag) (te : TE) : TE := fun σ H Q => te σ H fun x H1 => ∃ (a : Addr) (xs : List V) (Ls : List (List Int)), x = .ref a ∧ SqL K H1 a xs ∧ Paired (fun v l => ∃ b, v = V.ref b ∧ H1 b = some (.tup (l.map V.int))) xs Ls ∧ (∀ l ∈ Ls, l.length ≤ 1000) ∧ Tabs T H1 ∧
  ∀ (H2 : Hp) (p : Addr) (out : List V), ExtN H1 H2 → Tabs T H2 → H2 p = none → Paired (fun v l => v ∈ xs ∧ ∃ b, v = V.ref b ∧ H2 b = some (.tup (l.map V.int))) out (Ls.mergeSort (dataLe false lenKey)) → Q (.ref p) (upd H2 p (.lst out))
theorem SqL.extN {K : PySem.W.Frag} {H H' : Hp} {a : Addr} {xs : List V} (h : SqL K H a xs) (e : ExtN H H') : SqL K H' a xs := by
  rcases h with (h | ⟨o, h⟩) | h
  · exact .inl (.inl (e _ _ h fun _ z => by cases z))
  · exact .inl (.inr ⟨o, e _ _ h fun _ z => by cases z⟩)
  · exact .inr h
theorem SqT.extN {K : PySem.W.Frag} {H H' : Hp} {a : Addr} {xs : List V} (h : SqT K H a xs) (e : ExtN H H') : SqT K H' a xs := by
  rcases h with (h | ⟨o, h⟩) | h
  · exact .inl (.inl (e _ _ h fun _ z => by cases z))
  · exact .inl (.inr ⟨o, e _ _ h fun _ z => by cases z⟩)
  · exact .inr h
section
variable {X : Cx}
theorem each_of {R : V → List Int → Prop} {S : Value → List Int → Prop} (h : ∀ v u l, R v l → RelV v u → S u l) : ∀ {xs : List V} {us : List Value} {Ls : List (List Int)}, Paired R xs Ls → Vals xs us → EachIs S us Ls
  | _, _, _, .nil, .nil => .nil
  | _, _, _, .cons a t, .cons b u => .cons (h _ _ _ a b) (each_of h t u)
theorem back_of {R : V → List Int → Prop} {S : Value → List Int → Prop} (h : ∀ u l, S u l → ∃ v, R v l ∧ RelV v u) : ∀ {us : List Value} {Ls : List (List Int)}, EachIs S us Ls → ∃ xs, Paired R xs Ls ∧ Vals xs us
  | _, _, .nil => ⟨[], .nil, .nil⟩
  | _, _, .cons a t => by
    obtain ⟨v, r, e⟩ := h _ _ a
    obtain ⟨xs, r2, e2⟩ := back_of h t
    exact ⟨v :: xs, .cons r r2, .cons e e2⟩
theorem paired_mem {α β : Type} {R : α → β → Prop} : ∀ {xs : List α} {ys : List β}, Paired R xs ys → Paired (fun x y => x ∈ xs ∧ R x y) xs ys
  | _, _, .nil => .nil
  | _, _, .cons a t => .cons ⟨List.mem_cons_self .., a⟩ (L2.Paired.mapP (paired_mem t) fun x y z => ⟨List.mem_cons_of_mem _ z.1, z.2⟩)
theorem depthAll_le {k : Nat} : ∀ {xs : List PyData}, (∀ x ∈ xs, x.depth ≤ k) → PyData.depthAll xs ≤ k
  | [], _ => by show 0 ≤ k; omega
  | x :: r, h => by
    have a := depthAll_le (xs := r) fun y hy => h y (List.mem_cons_of_mem _ hy)
    have b := h x (List.mem_cons_self ..)
    show max x.depth (PyData.depthAll r) ≤ k
    omega
theorem sh_tup2 {k : Nat} {xs : List PyData} (h : ∀ x ∈ xs, x.depth ≤ k) : (PyData.tuple xs).depth ≤ k + 1 := by
  show PyData.depthAll xs + 1 ≤ k + 1
  have := depthAll_le h
  omega
theorem sh_tup1 {l : List Int} : (PyData.tuple (l.map .int)).depth ≤ 1 := sh_tup2 (k := 0) fun d hd => by
  obtain ⟨i, _, rfl⟩ := List.mem_map.mp hd
  show 0 ≤ 0
  omega
theorem pe_sortLam {T : List (Addr × Str)} {c P : Addr} {y : Str} {params : Arguments} {scope : Scope} {e : Expr} {te : TE} {p lpos pos kpos p1 p2 p3 p4 p5 : Pos} {k kk : Nat} (he : PE X e te) (hr : Room kk X.A)
    (hg : Gl X "sorted") (hm : X.mg "sorted" = none) (hml : X.mg "len" = none)
    (TB : TabB X.base X.mg c P) (hcode : X.env.code = .ref c) (hmT : (P, X.env.qual ++ "<lambda>") ∈ T) (hu : ∀ p ∈ T, p.1 = P → p.2 = X.env.qual ++ "<lambda>") (hdef : defaultsOf params X.env = ([], [])) (hnf : ∀ y ∈ scope.names, y.2 ≠ .free)
    (hbind : ∀ (q : Str) (cl : List (Str × Addr)) (pm cv ctv v : Value), bindArgs (kla_fn "<lambda>" q params (.Tuple [.Call (.Name "len" p1) [.Name y p2] [] p3, .Name y p4] k p5) scope cl pm cv ctv) ⟨[v], []⟩ = pure [(y, v)])
    (hy : scope.names.lookup y = some .local) (hl : scope.names.lookup ("len" : Str) = some .globalImplicit) (hcell : ∀ x ∈ scope.names, x.2 ≠ .cell) (hco : scope.isCoroutine = false) (hgen : scope.isGenerator = false) (hk : scope.kind = .function) (hdy : (y == ("__debug__" : Str)) = false)
    (na : starEach [e] X.env = (false, eval e X.env) :: starEach [] X.env := by rfl) (hpl : (backTo pos (starEach [e] X.env)).any (·.1) = false := by rfl) :
    PE X (.Call (.Name "sorted" p) [e] [⟨some "key", .Lambda params (.Tuple [.Call (.Name "len" p1) [.Name y p2] [] p3, .Name y p4] k p5) scope lpos, kpos⟩] pos) (tSortL T X.K te) := by
  refine ⟨fun pins s σ H Q I h => ?_⟩
  refine wpAny_Call_Name_kw (ld_blt I hg hm (by decide +kernel : bootBuiltins "sorted" = some (.builtin "sorted")) ?_)
  refine PyProof.Rows.callWith_kw (one_arg he I h (fun v s1 x H1 I1 r1 q1 => ?_) na) (by rw [na]; rfl) hpl rfl rfl
  obtain ⟨a, xs, Ls, rfl, hS, hP, hlen, hT, q⟩ := q1
  obtain rfl : v = Value.ref a := r1
  show wpAny _ _ (evalAll ((do let v ← eval (.Lambda params (.Tuple [.Call (.Name "len" p1) [.Name y p2] [] p3, .Name y p4] k p5) scope lpos) X.env; standAt pos; pure v) :: [])) _ _ s1
  refine wpAny_evalAll_cons (wpAny_bind (lam_make2 I1 TB hcode hmT hu hT hdef (fun y hy e => absurd e (hnf y hy)) fun f c' pm ctv H2 s2 I2 eN T2 hf hfn hfr hc => wpAny_bind (wpAny_standAt (wpAny_pure ?_))))
  refine wpAny_evalAll_nil ?_
  show wpAny (model X.prog X.w) X.A (call (.builtin "sorted") [.ref a] [(Str.ofString "key", .ref f)]) _ _ s2
  obtain ⟨mb, hb1, hb2⟩ := I2.mod.blt
  have LA : LamAt s2.heap f c' (X.env.qual ++ "<lambda>") y params (.Tuple [.Call (.Name "len" p1) [.Name y p2] [] p3, .Name y p4] k p5) scope (cloFrom X.env.cells scope.names []) pm ctv X.mg mb := by
    obtain ⟨⟨oc, vs, t, g1, g2, g3⟩, _⟩ := I2.hok c' _ hc
    refine ⟨hf, ⟨c', oc, vs, t, rfl, g1, g2, g3⟩, I2.nolimit, I2.mod.glob.keeps I2.bk, hb1.keeps I2.bk⟩
  obtain ⟨its, rv, pl, hz⟩ := I2.list (hS.extN eN)
  have hE : EachIs (fun u l => ∃ b, u = Value.ref b ∧ V.ref b ∈ xs ∧ H2 b = some (.tup (l.map V.int))) its Ls := each_of (R := fun v l => v ∈ xs ∧ ∃ b, v = V.ref b ∧ H1 b = some (.tup (l.map V.int))) (fun v u l ⟨hv, b, e, z⟩ r => by
    subst e
    exact ⟨b, r, hv, eN _ _ z fun _ z => by cases z⟩) (paired_mem hP) rv
  have lLs : Ls.length = its.length := hE.length.symm
  refine sorted_key_data (R := fun u l => ∃ b, u = Value.ref b ∧ V.ref b ∈ xs ∧ H2 b = some (.tup (l.map V.int))) (b := false) lenKey pl.isList hE (AllAlike.of fun l l' => ?_) (Sortable.tuples fun l => ⟨_, _, rfl⟩) (by rw [lLs, ← rv.length]; exact hz) (fun l _ => ?_)
    (ksk_s1 _ _) (fun x => ksk_l1 _ _) (fun x => ksk_t1 f x) (fun v l hR hl' h tk kp => ?_) fun out c0 h' tk kp fr hD ho hO => ?_
  · show alikeAll [.int l.length, .tuple (l.map .int)] [.int l'.length, .tuple (l'.map .int)] = true
    have e := alike_ints l l'
    simp [alikeAll, alike, e]
  · have hun := hr.units
    have hd : (lenKey l).depth ≤ 2 := by
      refine (sh_tup2 fun d hd => ?_)
      rcases List.mem_cons.mp hd with rfl | hd
      · show 0 ≤ 1; omega
      · rw [List.mem_singleton.mp hd]
        exact sh_tup1
    omega
  · obtain ⟨b, rfl, hb, hq⟩ := hR
    obtain ⟨us, rv2, ht2, _⟩ := I2.tuple (SqT.of hq)
    exact key_turn (s := { s2 with heap := h, toks := tk }) (LA.keeps kp) hml ((hb2 _ (by decide)).trans (by decide +kernel)) (hbind _ _ _ _ _ _) hy hl hcell hco hgen hk hdy (by have := hr.dp; show X.A.depth < _; omega) (ht2.keeps kp) rv2 (hlen l hl')
  · obtain ⟨out', hp', hv'⟩ := back_of (R := fun v l => v ∈ xs ∧ ∃ b, v = V.ref b ∧ H2 b = some (.tup (l.map V.int))) (fun u l ⟨b, e, hb, hq⟩ => ⟨.ref b, ⟨hb, b, rfl, hq⟩, e⟩) hO
    have hl1 : out'.length = xs.length := by
      rw [hv'.length, ho, lLs, ← rv.length]
    refine ⟨.ref (s2.heap.objs.size + 1), upd H2 (s2.heap.objs.size + 1) (.lst out'), I2.laid (t' := tk) kp (Nat.le_succ _) ⟨by rw [hl1]; exact hz, out, c0, hv', hD⟩, rfl, q _ _ _ eN T2 (I2.hok.fresh (Nat.le_succ _)) hp'⟩
end
end L2

namespace Dv
open PySem PySem.Spec PySem.W L2 DvC LamX
open PyProof.Rows hiding St
/-- the lots as they are made one thing behind another -/
def buildL (m : Nat) : Nat → List (List Nat)
  | 0 => [[]]
  | n + 1 => buildL m n ++ ((buildL m n).filter fun l => decide (l.length < m)).map fun l => l ++ [n]
def lotsL (n m : Nat) : List (List Nat) := (List.range (m + 1)).flatMap (combs n)
def toI (l : List Nat) : List Int := l.map fun (j : Nat) => (j : Int)
def chkL (n m : Nat) : Bool :=
  (buildL m n).isPerm (lotsL n m) && decide ((lotsL n m).Pairwise fun a b => dataLe false lenKey (toI a) (toI b) = true) && (lotsL n m).all fun a => (lotsL n m).all fun b => !(dataLe false lenKey (toI a) (toI b) && dataLe false lenKey (toI b) (toI a)) || decide (a = b)
theorem chk_all : ∀ n, n < 8 → ∀ m, m < 4 → chkL n m = true := by decide +kernel
theorem sort_lots {n m : Nat} (hn : n < 8) (hm : m < 4) : ((buildL m n).map toI).mergeSort (dataLe false lenKey) = (lotsL n m).map toI := by
  have h := chk_all n hn m hm
  unfold chkL at h
  rw [Bool.and_eq_true, Bool.and_eq_true] at h
  obtain ⟨⟨h1, h2⟩, h3⟩ := h
  have hp : (buildL m n).Perm (lotsL n m) := List.isPerm_iff.mp h1
  have h2 := of_decide_eq_true h2
  have T : TotalLe (dataLe false lenKey) := sortLe_total _ _ _
  have q1 : (((buildL m n).map toI).mergeSort (dataLe false lenKey)).Perm ((lotsL n m).map toI) := (List.mergeSort_perm _ _).trans (hp.map toI)
  refine List.Perm.eq_of_pairwise (le := fun a b => dataLe false lenKey a b = true) (fun a b ha hb l1 l2 => ?_) (sort_pairwise T _) (List.pairwise_map.mpr h2) q1
  obtain ⟨a', ha', rfl⟩ := List.mem_map.mp (q1.mem_iff.mp ha)
  obtain ⟨b', hb', rfl⟩ := List.mem_map.mp hb
  have z := List.all_eq_true.mp (List.all_eq_true.mp h3 a' ha') b' hb'
  rw [l1, l2] at z
  have e : a' = b' := by simpa using z
  rw [e]
/-- a tuple of ints -/
def tupD (l : List Int) : PyData := .tuple (l.map .int)
theorem tupD_toI (l : List Nat) : tupD (toI l) = lotD l := by
  unfold tupD toI lotD
  rw [List.map_map]
  rfl
section
variable {K : PySem.W.Frag} {T : List (Addr × Str)} {W : Wd K T} {G : Dv.Ctx} {te : TE}
theorem tups_of {H : Hp} : ∀ {Ls : List (List Int)} {xs : List V}, DAll W H xs (Ls.map tupD) → Paired (fun v l => ∃ b, v = V.ref b ∧ H b = some (.tup (l.map V.int))) xs Ls
  | [], _, .nil => .nil
  | l :: r, _, .cons a t => by
    obtain ⟨b, ys, rfl, nb, hb, al⟩ := D.tup_inv (ds := l.map .int) a
    have e := ints_of al
    subst e
    exact .cons ⟨b, rfl, hb⟩ (tups_of t)
theorem all_tups {H : Hp} : ∀ {Ls : List (List Int)} {out : List V}, Paired (fun v l => ∃ b, v = V.ref b ∧ ¬ W.X b ∧ H b = some (.tup (l.map V.int))) out Ls → DAll W H out (Ls.map tupD)
  | [], _, .nil => .nil
  | l :: r, _, .cons ⟨b, e, nb, hb⟩ t => by
    subst e
    refine .cons (.tup nb hb ?_) (all_tups t)
    have ai : ∀ l : List Int, DAll W H (l.map V.int) (l.map PyData.int) := fun l => by
      induction l with
      | nil => exact .nil
      | cons x r ih => exact .cons (.int x) ih
    exact ai l
/-- sorted(e, key=lambda y: (len(y), y)) -/
theorem el_sortL {Ls : List (List Int)} (h : E K T te G (· = .list (Ls.map tupD))) (hl : ∀ l ∈ Ls, l.length ≤ 1000) : EL K T (tSortL T K te) G (· = (Ls.mergeSort (dataLe false lenKey)).map tupD) := fun W σ H s j Q q => h W σ H s j _ fun v d H1 e1 j1 dv p => by
  subst p
  obtain ⟨a, xs, rfl, nx, ha, al⟩ := dv.lst_inv
  refine ⟨a, xs, Ls, rfl, SqL.of ha, tups_of al, hl, W.jT j1, fun H2 p out eN T2 hp ho => ?_⟩
  have j2 := W.jt j1 eN T2
  have e2 : Ex W H1 H2 := Ex.extN eN
  have hx : ∀ v ∈ xs, ∀ b, v = V.ref b → ¬ W.X b := fun v hv b eb => by
    obtain ⟨i, hi, e⟩ := List.mem_iff_getElem.mp hv
    obtain ⟨d, h1, h2⟩ := al.getV (i := i) (v := v) (by rw [List.getElem?_eq_getElem hi, e])
    obtain ⟨l, hl', rfl⟩ := List.mem_map.mp (List.mem_of_getElem? h1)
    subst eb
    obtain ⟨b', ys, e', nb, _⟩ := D.tup_inv (ds := l.map .int) h2
    cases e'
    exact nb
  have al2 : DAll W H2 out ((Ls.mergeSort (dataLe false lenKey)).map tupD) := all_tups (L2.Paired.mapP ho fun v l ⟨hv, b, e, hb⟩ => ⟨b, e, hx v hv b e, hb⟩)
  exact q p out _ _ ((Fr.new hp).pre (e1.trans e2)) (j_new j2 hp) (new_ne j2 hp) upd_same (al2.mono (.new hp)) rfl
end
/-- a def whose code object is known -/
structure FunC (K : PySem.W.Frag) (x qual : Str) (st : Stmt) (f : Addr) (fd : FuncData) (c : Addr) : Prop where
  ex : ∃ (oc : Value) (od : Option Addr) (kV doc pm : Value) (an : Option Addr) (ct : Value) (osl : Array (Option Value)),
    fd = PySem.W.fnOf x qual (defArgs st) (defBody st) (defScope st) .none kV doc pm an (.ref c) ct ∧ K.lookup f = some ⟨oc, od, .func fd, osl⟩ ∧ PySem.W.codeIn K (.ref c) qual = true
  kp : PySem.W.keepIn K (.ref f) = true
section
variable {P : Program} {w : World} {K : PySem.W.Frag} {mg : Str → Option Value} {base : Heap} {T : List (Addr × Str)}
theorem FunC.fun_ {x qual : Str} {st : Stmt} {f : Addr} {fd : FuncData} {c : Addr} (F : FunC K x qual st f fd c) : L2.Fun K x qual st f fd := by
  obtain ⟨oc, od, kV, doc, pm, an, ct, osl, e, lk, hcd⟩ := F.ex
  exact ⟨⟨oc, od, kV, doc, pm, an, _, ct, osl, e, lk, hcd⟩, F.kp⟩
theorem FunC.ok {x qual : Str} {st : Stmt} {f : Addr} {fd : FuncData} {c : Addr} {N ps : List Str} {k : Nat} {sp : Sp} (F : FunC K x qual st f fd c) (S : FnScope N ps (defScope st)) (len : ∀ vs H Q E, sp vs H Q E → vs.length = ps.length)
    (hbody : ∀ (A : Around) (outer : List Env) (s : Shared) (H : Hp) (vs : List V) (Q : VK) (E : XK), Room k (A.deeper (envOfC qual (defScope st) s.heap.objs.size f (.ref c))) → sp vs H Q E →
      ∃ t, PSs (cxOf CX0 P w K mg base N qual (defScope st) f (.ref c) A outer s H E).nox (defBody st) t ∧ t { nx := fun _ H' => Q .non H', rt := Q } (L2.start N vs) H) : FnOk P w K mg base CX0 (k + 1) f fd ps sp := by
  obtain ⟨oc, od, kV, doc, pm, an, ct, osl, rfl, lk, hcd⟩ := F.ex
  refine fn_of lk hcd S len fun A outer s H vs Q E hr hsp => ?_
  obtain ⟨t, ht, q⟩ := hbody A outer s H vs Q E hr hsp
  exact ⟨t, ht.nox, q⟩
theorem ok_defDLC {x qual : Str} {st : Stmt} {f : Addr} {fd : FuncData} {c : Addr} {N ps : List Str} {k : Nat} {pre : List PyData → Prop} {F : List PyData → List PyData} (Fn : FunC K x qual st f fd c) (Sc : FnScope N ps (defScope st)) (hl : ∀ ds, pre ds → ds.length = ps.length)
    (hbody : ∀ (A : Around) (outer : List Env) (s : Shared) (H : Hp) (E' : XK), Room k (A.deeper (envOfC qual (defScope st) s.heap.objs.size f (.ref c))) →
      ∃ t, PSs (cxOf CX0 P w K mg base N qual (defScope st) f (.ref c) A outer s H E').nox (defBody st) t ∧ ∀ ds, pre ds → S K T t (startG N (dats ds)) { rl := (· = F ds) }) : FnOk P w K mg base CX0 (k + 1) f fd ps (spDL K T pre F) := by
  refine FunC.ok Fn Sc (fun vs H Q E' ⟨W, os, j, dv, ⟨ds, e, hp⟩, _⟩ => (Paired.length dv).trans (by rw [e, dats, List.length_map]; exact hl ds hp)) fun A outer s H vs Q E' hr ⟨W, os, j, dv, ⟨ds, e, hp⟩, q⟩ => ?_
  obtain ⟨t, ht, hs⟩ := hbody A outer s H E' hr
  subst e
  exact ⟨t, ht, hs ds hp W _ _ H (start_sl dv) j ⟨fun _ _ _ _ _ _ f => f.elim, fun _ _ _ _ _ _ f => f.elim, fun p xs ds' H' f j' n h al z => q p xs ds' H' f j' n h al ⟨ds, rfl, z⟩, fun _ _ _ _ _ _ f => f.elim, fun _ _ _ _ _ _ f => f.elim⟩⟩
end
end Dv

namespace K03
open PySem PySem.Spec L2 Dv DvC
open PyProof.Rows hiding St
def top (i : Nat) : Stmt := PySem.Challenge.pw_probelots_k03_what_may_be_so.main.body.getD i (.Pass ⟨0, 0, 0, 0⟩)
abbrev s_is_within : Stmt := top 11
abbrev s_is_lot : Stmt := top 12
abbrev s_is_probe : Stmt := top 13
abbrev s_is_answer : Stmt := top 14
abbrev s_check_plan : Stmt := top 15
abbrev s_first_wrong : Stmt := top 16
abbrev s_check_answers : Stmt := top 17
abbrev s_check_count : Stmt := top 18
abbrev s_check_most : Stmt := top 19
abbrev s_check_slips : Stmt := top 20
abbrev s_lots_up_to : Stmt := top 22
abbrev s_answer_of : Stmt := top 23
abbrev s_answers_of : Stmt := top 24
abbrev s_slips_in : Stmt := top 25
abbrev s_could : Stmt := top 27
abbrev s_sure : Stmt := top 28
abbrev s_how_many_have : Stmt := top 29
abbrev s__law_row : Stmt := top 31
abbrev s__law_taken : Stmt := top 32
abbrev s__law_lot : Stmt := top 33
abbrev s__law_plan : Stmt := top 34
abbrev s__law_answers : Stmt := top 35
abbrev s__law_said : Stmt := top 36
abbrev s__law_lots : Stmt := top 37
abbrev s__law_slips : Stmt := top 38
abbrev s__law_alike : Stmt := top 39
abbrev s_law : Stmt := top 40
/-- the names that the top leaves to the built-ins, and its constants -/
structure Txt (mg : Str → Option Value) : Prop where
  len : mg "len" = none
  any : mg "any" = none
  sum : mg "sum" = none
  isinstance : mg "isinstance" = none
  tuple : mg "tuple" = none
  list : mg "list" = none
  int : mg "int" = none
  bool : mg "bool" = none
  str : mg "str" = none
  range : mg "range" = none
  enumerate : mg "enumerate" = none
  zip : mg "zip" = none
  sorted : mg "sorted" = none
  MOST_THINGS : ∃ t, mg "MOST_THINGS" = some (.int 10 t)
  MOST_PROBES : ∃ t, mg "MOST_PROBES" = some (.int 16 t)
  MOST_BAD : ∃ t, mg "MOST_BAD" = some (.int 3 t)
  MOST_SLIPS : ∃ t, mg "MOST_SLIPS" = some (.int 16 t)
section
variable {P : Program} {w : World} {K : PySem.W.Frag} {mg : Str → Option Value} {base : Heap} {T : List (Addr × Str)}
theorem sc_is_within : FnScope ["value", "low", "high"] ["value", "low", "high"] (defScope s_is_within) := ⟨rfl, rfl, rfl, by decide +kernel, rfl, by decide +kernel, by decide +kernel⟩
def withinD : PyData → Int → Int → Bool
  | .int i, lo, hi => decide (lo ≤ i) && decide (i ≤ hi)
  | _, _, _ => false
def F_within : List PyData → PyData
  | [d, .int lo, .int hi] => .bool (withinD d lo hi)
  | _ => .none
abbrev sp_within (K : PySem.W.Frag) (T : List (Addr × Str)) : Sp := spD K T (fun ds => ∃ d lo hi, ds = [d, .int lo, .int hi]) F_within
theorem ok_is_within {f : Addr} {fd : FuncData} (Fn : Fun K "is_within" "is_within" s_is_within f fd) (X : Txt mg) : FnOk P w K mg base CX0 1 f fd ["value", "low", "high"] (sp_within K T) := by
  refine ok_defD Fn sc_is_within (fun ds ⟨_, _, _, e⟩ => by rw [e]; rfl) fun cdv A outer s H E' hr => ?_
  refine ⟨_, (pss_cons (ps_if (PW.pt (pw_or (pt_not (pt_val (pe_callB call_isi (by rfl) X.isinstance bt_isinstance (pa_cons (pv 0) (pa_cons (pe_bltn (v := .ty "int") (by rfl) X.int bt_int rfl) pa_nil))))) (pw_or1 (pt_val (pe_callB call_isi (by rfl) X.isinstance bt_isinstance (pa_cons (pv 0) (pa_cons (pe_bltn (v := .ty "bool") (by rfl) X.bool bt_bool rfl) pa_nil))))))) (pss_one (ps_ret pe_bl)) pss_nil)
  (pss_one (ps_ret (pe_chain op_le op_le (pv 1) (pv 0) (pv 2))))), ?_⟩
  rintro ds ⟨d, lo, hi, rfl⟩
  refine s_seq (s_if (t_or (t_not (t_B (e_isi e_var (kb_int d)))) fun _ => t_B (e_isi e_var (kb_bool d))) (fun h => s_ret e_bl ?_) (fun h => ?_))
  · cases d <;> first | rfl | cases h
  · cases d <;> first | (exact s_next (s_ret (e_chain e_var e_var e_var) rfl)) | cases h
theorem sc_is_lot : FnScope ["value", "things", "least", "thing"] ["value", "things"] (defScope s_is_lot) := ⟨rfl, rfl, rfl, by decide +kernel, rfl, by decide +kernel, by decide +kernel⟩
def lotGo (n : Int) : Int → List PyData → Bool
  | _, [] => true
  | l, .int i :: r => (decide (l ≤ i) && decide (i ≤ n - 1)) && lotGo n (i + 1) r
  | _, _ :: _ => false
def isLotD (n : Int) : PyData → Bool
  | .tuple xs => lotGo n 0 xs
  | _ => false
def F_is_lot : List PyData → PyData
  | [v, .int n] => .bool (isLotD n v)
  | _ => .none
abbrev sp_is_lot (K : PySem.W.Frag) (T : List (Addr × Str)) : Sp := spD K T (fun ds => ∃ v n, ds = [v, .int n]) F_is_lot
theorem ok_is_lot {f f1 : Addr} {fd fd1 : FuncData} (Fn : Fun K "is_lot" "is_lot" s_is_lot f fd) (X : Txt mg) (F1 : FnOk P w K mg base CX0 1 f1 fd1 ["value", "low", "high"] (sp_within K T)) (k1 : PySem.W.keepIn K (.ref f1) = true) (b1 : Binds K fd1 ["value", "low", "high"] []) (m1 : mg "is_within" = some (.ref f1)) :
    FnOk P w K mg base CX0 2 f fd ["value", "things"] (sp_is_lot K T) := by
  refine ok_defD Fn sc_is_lot (fun ds ⟨_, _, e⟩ => by rw [e]; rfl) fun cdv A outer s H E' hr => ?_
  refine ⟨_, (pss_cons (ps_if (pt_not (pt_val (pe_callB call_isi (by rfl) X.isinstance bt_isinstance (pa_cons (pv 0) (pa_cons (pe_bltn (v := .ty "tuple") (by rfl) X.tuple bt_tuple rfl) pa_nil))))) (pss_one (ps_ret pe_bl)) pss_nil)
  (pss_cons (ps_set (i := 2) sc_is_lot.nd rfl (by first | exact Or.inl rfl | exact Or.inr rfl) pe_int)
  (pss_cons (ps_for PassesOwn.never rfl (pi_tup (pv 0)) (pg_name (i := 3) sc_is_lot.nd rfl (by first | exact Or.inl rfl | exact Or.inr rfl)) (pss_cons (ps_if (pt_not (pt_val (pe_call F1 hr (by rfl) m1 k1 b1 .nil pass0 (pa_cons (pv 3) (pa_cons (pv 2) (pa_cons (pe_op op_sub (pv 1) pe_int) pa_nil)))))) (pss_one (ps_ret pe_bl)) pss_nil)
  (pss_one (ps_set (i := 2) sc_is_lot.nd rfl (by first | exact Or.inl rfl | exact Or.inr rfl) (pe_op op_add (pv 3) pe_int)))))
  (pss_one (ps_ret pe_bl))))), ?_⟩
  rintro ds ⟨v, n, rfl⟩
  refine s_seq (s_if (t_not (t_B (e_isi e_var (kb_tup v)))) (fun h => s_ret e_bl ?_) (fun h => ?_))
  · cases v <;> first | rfl | cases h
  · obtain ⟨xs, rfl⟩ : ∃ xs, v = .tuple xs := by cases v <;> first | exact ⟨_, rfl⟩ | cases h
    refine s_next (s_seq (s_asg e_int (s_seq ?_)))
    refine s_for (vs := [3]) (fun i G' => ∃ l x, G' = [some (.dat (.tuple xs)), some (.dat (.int n)), some (.dat (.int l)), x] ∧ lotGo n l (xs.drop i) = lotGo n 0 xs) (i_tup e_var) ⟨0, none, rfl, rfl⟩ ?_ ?_
    · rintro i d G' hi hd ⟨l, x, rfl, hl⟩
      refine ⟨_, tg_name (by decide), ?_⟩
      have ed : xs.drop i = d :: xs.drop (i + 1) := by
        obtain ⟨h1, h2⟩ := List.getElem?_eq_some_iff.mp hd
        rw [← h2]
        exact List.drop_eq_getElem_cons h1
      rw [ed] at hl
      refine s_seq (s_if (t_not (t_B (b := withinD d l (n - 1)) (E.is (e_callD (F := F_within) (ds := [d, .int l, .int (n - 1)]) (a_cons e_var (a_cons e_var (a_cons (e_sub e_var e_int) a_nil))) ⟨d, l, n - 1, rfl⟩) rfl))) (fun h => s_ret e_bl ?_) (fun h => s_next ?_))
      · show PyData.bool false = PyData.bool (lotGo n 0 xs)
        rw [← hl]
        cases d <;> first | rfl | (rename_i j; have h' : withinD (.int j) l (n - 1) = false := by simpa using h
                                   show PyData.bool false = PyData.bool (withinD (.int j) l (n - 1) && lotGo n (j + 1) (xs.drop (i + 1))); rw [h', Bool.false_and])
      · cases d <;> first
          | (rename_i j
             have h' : withinD (.int j) l (n - 1) = true := by simpa using h
             refine s_asg (e_add e_var e_int) ⟨j + 1, some (.dat (.int j)), rfl, ?_⟩
             rw [← hl]
             show _ = (withinD (.int j) l (n - 1) && lotGo n (j + 1) (xs.drop (i + 1)))
             rw [h', Bool.true_and])
          | (exact absurd (show true = false from h) (by decide))
    · rintro G' ⟨l, x, rfl, hl⟩
      refine s_ret e_bl ?_
      show PyData.bool true = PyData.bool (lotGo n 0 xs)
      rw [← hl, List.drop_length]
      rfl
theorem sc_is_probe : FnScope ["value", "things"] ["value", "things"] (defScope s_is_probe) := ⟨rfl, rfl, rfl, by decide +kernel, rfl, by decide +kernel, by decide +kernel⟩
def isProbeD (n : Int) : PyData → Bool
  | .tuple xs => lotGo n 0 xs && decide ((0 : Int) < xs.length)
  | _ => false
def F_is_probe : List PyData → PyData
  | [v, .int n] => .bool (isProbeD n v)
  | _ => .none
abbrev sp_is_probe (K : PySem.W.Frag) (T : List (Addr × Str)) : Sp := spD K T (fun ds => ∃ v n, ds = [v, .int n]) F_is_probe
theorem ok_is_probe {f f1 : Addr} {fd fd1 : FuncData} (Fn : Fun K "is_probe" "is_probe" s_is_probe f fd) (X : Txt mg) (F1 : FnOk P w K mg base CX0 2 f1 fd1 ["value", "things"] (sp_is_lot K T)) (k1 : PySem.W.keepIn K (.ref f1) = true) (b1 : Binds K fd1 ["value", "things"] []) (m1 : mg "is_lot" = some (.ref f1)) :
    FnOk P w K mg base CX0 3 f fd ["value", "things"] (sp_is_probe K T) := by
  refine ok_defD Fn sc_is_probe (fun ds ⟨_, _, e⟩ => by rw [e]; rfl) fun cdv A outer s H E' hr => ?_
  refine ⟨_, (pss_one (ps_ret (pe_and (pe_call F1 hr (by rfl) m1 k1 b1 .nil pass0 (pa_cons (pv 0) (pa_cons (pv 1) pa_nil))) (pe_one (pe_cmpR op_gt (pe_callB call_len_seq (by rfl) X.len bt_len (pa_cons (pv 0) pa_nil)) pe_int (nomark _)))))), ?_⟩
  rintro ds ⟨v, n, rfl⟩
  have call := e_callD (K := K) (T := T) (G := [some (.dat v), some (.dat (.int n))]) (Ex' := E0) (pre := fun ds => ∃ v n, ds = [v, .int n]) (F := F_is_lot) (a_cons (e_var (i := 0)) (a_cons (e_var (i := 1)) a_nil)) (ds := [v, .int n]) ⟨v, n, rfl⟩
  cases v with
  | tuple xs => exact s_ret (e_andV (b := decide ((0 : Int) < xs.length)) call fun _ => e_cmp (f := fun i j => decide (j < i)) (e_len (a_cons e_var a_nil) (.inr rfl)) e_int) rfl
  | _ => exact s_ret (e_andV (a := false) (b := false) call fun h => by cases h) rfl
theorem sc_answer_of : FnScope ["probe", "lot", "thing"] ["probe", "lot"] (defScope s_answer_of) := ⟨rfl, rfl, rfl, by decide +kernel, rfl, by decide +kernel, by decide +kernel⟩
/-- z in xs -/
def memD (xs : List PyData) (d : PyData) : Bool := xs.any fun z => PyData.eqv z d
def hitD (probe lot : List PyData) : Bool := probe.any fun d => memD lot d
def F_answer_of : List PyData → PyData
  | [.tuple p, .tuple l] => .int (if hitD p l then 1 else 0)
  | _ => .none
def FlatT (xs : List PyData) : Prop := xs.all flatD = true ∧ xs.length ≤ 1000
abbrev sp_answer_of (K : PySem.W.Frag) (T : List (Addr × Str)) : Sp := spD K T (fun ds => ∃ p l, ds = [.tuple p, .tuple l] ∧ FlatT p ∧ FlatT l) F_answer_of
theorem ok_answer_of {f : Addr} {fd : FuncData} (Fn : Fun K "answer_of" "answer_of" s_answer_of f fd) (X : Txt mg) : FnOk P w K mg base CX0 1 f fd ["probe", "lot"] (sp_answer_of K T) := by
  refine ok_defD Fn sc_answer_of (fun ds ⟨_, _, e, _⟩ => by rw [e]; rfl) fun cdv A outer s H E' hr => ?_
  refine ⟨_, (pss_one (ps_ret (pe_ifExp (pt_val (pe_callB (cr_any rfl) (by rfl) X.any bt_any (pa_cons (pe_lc (own := [("thing", 2)]) rfl sc_answer_of.nd (pi_tup (pv 0)) (blkOk_by (N := ["probe", "lot", "thing"]) (sc := defScope s_answer_of) (by decide +kernel)) (fun _ _ _ _ _ => (pg_name (i := 2) sc_answer_of.nd rfl (by first | exact Or.inl rfl | exact Or.inr rfl))) (fun _ _ _ _ _ => pts_nil) (fun _ _ _ _ _ => (pe_cmpR (r := rIn K false) op_in_seq (pv 2) (pv 1) (by rfl)))) pa_nil))) pe_int pe_int))), ?_⟩
  rintro ds ⟨p, l, rfl, hp, hl⟩
  have comp := el_lcM (K := K) (T := T) (G := [some (.dat (.tuple p)), some (.dat (.tuple l)), none]) (vs := [2]) (g := gName 2) (te := tOp (rIn K false) (tVar 2) (tVar 1)) (wi := iTup K (tVar 0)) (fun d => .bool (memD l d)) (i_tup e_var) (fun d hd => ⟨_, tg_name (by decide), by
    have fd : flatD d = true := List.all_eq_true.mp hp.1 d hd
    exact e_inSeq e_var e_var (.inr rfl) fd hl.1⟩) (Nat.le_trans hp.2 (by decide))
  have e1 : p.map (fun d => PyData.bool (memD l d)) = (p.map (memD l)).map .bool := by rw [List.map_map]; rfl
  rw [e1] at comp
  refine s_retP (e_if (b := hitD p l) (P := (· = .int (if hitD p l then 1 else 0))) (t_B ((e_any (a_cons comp.is a_nil)).is ?_)) (fun h => ?_) (fun h => ?_)) fun d h => h
  · rw [List.any_map]; rfl
  · rw [h]; exact e_int
  · rw [h]; exact e_int
theorem sc_answers_of : FnScope ["probes", "lot", "probe"] ["probes", "lot"] (defScope s_answers_of) := ⟨rfl, rfl, rfl, by decide +kernel, rfl, by decide +kernel, by decide +kernel⟩
def ansD (probe lot : PyData) : PyData := F_answer_of [probe, lot]
def F_answers_of : List PyData → PyData
  | [.tuple ps, l] => .tuple (ps.map fun p => ansD p l)
  | _ => .none
abbrev sp_answers_of (K : PySem.W.Frag) (T : List (Addr × Str)) : Sp := spD K T (fun ds => ∃ ps l, ds = [.tuple ps, .tuple l] ∧ ps.length ≤ 1000 ∧ (∀ p ∈ ps, ∃ xs, p = .tuple xs ∧ FlatT xs) ∧ FlatT l) F_answers_of
theorem ok_answers_of {f f1 : Addr} {fd fd1 : FuncData} (Fn : Fun K "answers_of" "answers_of" s_answers_of f fd) (X : Txt mg) (F1 : FnOk P w K mg base CX0 1 f1 fd1 ["probe", "lot"] (sp_answer_of K T)) (k1 : PySem.W.keepIn K (.ref f1) = true) (b1 : Binds K fd1 ["probe", "lot"] []) (m1 : mg "answer_of" = some (.ref f1)) :
    FnOk P w K mg base CX0 3 f fd ["probes", "lot"] (sp_answers_of K T) := by
  refine ok_defD Fn sc_answers_of (fun ds ⟨_, _, e, _⟩ => by rw [e]; rfl) fun cdv A outer s H E' hr => ?_
  have hr1 : Room 1 (A.deeper (envOfC "answers_of" (defScope s_answers_of) s.heap.objs.size f cdv)) := hr.mono (by decide)
  refine ⟨_, (pss_one (ps_ret (pe_callTy call_tuple_of (by rfl) X.tuple bt_tuple (pa_cons (pe_lc (own := [("probe", 2)]) rfl sc_answers_of.nd (pi_tup (pv 0)) (blkOk_by (N := ["probes", "lot", "probe"]) (sc := defScope s_answers_of) (by decide +kernel)) (fun _ _ _ _ _ => (pg_name (i := 2) sc_answers_of.nd rfl (by first | exact Or.inl rfl | exact Or.inr rfl))) (fun _ _ _ _ _ => pts_nil) (fun _ _ _ _ _ => (pe_call F1 hr1 (by rfl) m1 k1 b1 .nil pass0 (pa_cons (pv 2) (pa_cons (pv 1) pa_nil))))) pa_nil)))), ?_⟩
  rintro ds ⟨ps, l, rfl, hn, hp, hl⟩
  refine s_ret (e_tupleL (a_cons (EL.is (el_lcM (vs := [2]) (fun p => ansD p (.tuple l)) (i_tup e_var) (fun d hd => ⟨_, tg_name (by decide), ?_⟩) (Nat.le_trans hn (by decide)))) a_nil)) rfl
  obtain ⟨xs, rfl, hx⟩ := hp d hd
  exact e_callD (a_cons e_var (a_cons e_var a_nil)) ⟨xs, l, rfl, hx, hl⟩
/-- what is never come to -/
theorem s_never {F : EndG} {G : Dv.Ctx} (h : False) {t : TS} : S K T t G F := h.elim
def isAnsD (d : PyData) : Bool := isNone d || withinD d 0 1
theorem sc_is_answer : FnScope ["value"] ["value"] (defScope s_is_answer) := ⟨rfl, rfl, rfl, by decide +kernel, rfl, by decide +kernel, by decide +kernel⟩
def F_is_answer : List PyData → PyData
  | [v] => .bool (isAnsD v)
  | _ => .none
abbrev sp_is_answer (K : PySem.W.Frag) (T : List (Addr × Str)) : Sp := spD K T (fun ds => ∃ v, ds = [v]) F_is_answer
theorem ok_is_answer {f f1 : Addr} {fd fd1 : FuncData} (Fn : Fun K "is_answer" "is_answer" s_is_answer f fd) (F1 : FnOk P w K mg base CX0 1 f1 fd1 ["value", "low", "high"] (sp_within K T)) (k1 : PySem.W.keepIn K (.ref f1) = true) (b1 : Binds K fd1 ["value", "low", "high"] []) (m1 : mg "is_within" = some (.ref f1)) :
    FnOk P w K mg base CX0 2 f fd ["value"] (sp_is_answer K T) := by
  refine ok_defD Fn sc_is_answer (fun ds ⟨_, e⟩ => by rw [e]; rfl) fun cdv A outer s H E' hr => ?_
  refine ⟨_, (pss_one (ps_ret (pe_or (pe_cmp (pc_isN (pv 0)) rfl) (pe_one (pe_call F1 hr (by rfl) m1 k1 b1 .nil pass0 (pa_cons (pv 0) (pa_cons pe_int (pa_cons pe_int pa_nil)))))))), ?_⟩
  rintro ds ⟨v, rfl⟩
  refine s_ret (e_orV (b := withinD v 0 1) (e_isN e_var) fun _ => E.is (e_callD (F := F_within) (ds := [v, .int 0, .int 1]) (a_cons e_var (a_cons e_int (a_cons e_int a_nil))) ⟨v, 0, 1, rfl⟩) rfl) rfl
theorem sc_check_count : FnScope ["value", "low", "high"] ["value", "low", "high"] (defScope s_check_count) := ⟨rfl, rfl, rfl, by decide +kernel, rfl, by decide +kernel, by decide +kernel⟩
def F_none : List PyData → PyData := fun _ => .none
abbrev sp_check_count (K : PySem.W.Frag) (T : List (Addr × Str)) : Sp := spD K T (fun ds => ∃ i lo hi, ds = [.int i, .int lo, .int hi] ∧ lo ≤ i ∧ i ≤ hi) F_none
theorem ok_check_count {f f1 : Addr} {fd fd1 : FuncData} (Fn : Fun K "check_count" "check_count" s_check_count f fd) (F1 : FnOk P w K mg base CX0 1 f1 fd1 ["value", "low", "high"] (sp_within K T)) (k1 : PySem.W.keepIn K (.ref f1) = true) (b1 : Binds K fd1 ["value", "low", "high"] []) (m1 : mg "is_within" = some (.ref f1)) :
    FnOk P w K mg base CX0 2 f fd ["value", "low", "high"] (sp_check_count K T) := by
  refine ok_defD Fn sc_check_count (fun ds ⟨_, _, _, e, _⟩ => by rw [e]; rfl) fun cdv A outer s H E' hr => ?_
  refine ⟨_, (pss_one (ps_if (pt_not (pt_val (pe_call F1 hr (by rfl) m1 k1 b1 .nil pass0 (pa_cons (pv 0) (pa_cons (pv 1) (pa_cons (pv 2) pa_nil)))))) (pss_one ps_never) pss_nil)), ?_⟩
  rintro ds ⟨i, lo, hi, rfl, h1, h2⟩
  have hw : withinD (.int i) lo hi = true := by show (decide (lo ≤ i) && decide (i ≤ hi)) = true; rw [decide_eq_true h1, decide_eq_true h2]; rfl
  refine s_if (t_not (t_B (b := true) (E.is (e_callD (F := F_within) (ds := [.int i, .int lo, .int hi]) (a_cons e_var (a_cons e_var (a_cons e_var a_nil))) ⟨_, lo, hi, rfl⟩) (congrArg PyData.bool hw)))) (fun h => by cases h) fun _ => s_next rfl
theorem sc_check_most : FnScope ["most"] ["most"] (defScope s_check_most) := ⟨rfl, rfl, rfl, by decide +kernel, rfl, by decide +kernel, by decide +kernel⟩
abbrev sp_check_most (K : PySem.W.Frag) (T : List (Addr × Str)) : Sp := spD K T (fun ds => ∃ i : Int, ds = [.int i] ∧ 0 ≤ i ∧ i ≤ 3) F_none
theorem ok_check_most {f f1 : Addr} {fd fd1 : FuncData} (Fn : Fun K "check_most" "check_most" s_check_most f fd) (X : Txt mg) (F1 : FnOk P w K mg base CX0 2 f1 fd1 ["value", "low", "high"] (sp_check_count K T)) (k1 : PySem.W.keepIn K (.ref f1) = true) (b1 : Binds K fd1 ["value", "low", "high"] []) (m1 : mg "check_count" = some (.ref f1)) :
    FnOk P w K mg base CX0 3 f fd ["most"] (sp_check_most K T) := by
  refine ok_defD Fn sc_check_most (fun ds ⟨_, e, _⟩ => by rw [e]; rfl) fun cdv A outer s H E' hr => ?_
  obtain ⟨t, mt⟩ := X.MOST_BAD
  refine ⟨_, (pss_one (ps_expr (pe_call F1 hr (by rfl) m1 k1 b1 .nil pass0 (pa_cons (pv 0) (pa_cons pe_int (pa_cons (pe_glob (v := .int 3) (by rfl) mt ⟨_, rfl⟩) pa_nil)))))), ?_⟩
  rintro ds ⟨i, rfl, h1, h2⟩
  exact s_drop (e_callD (F := F_none) (ds := [.int i, .int 0, .int 3]) (a_cons e_var (a_cons e_int (a_cons e_int a_nil))) ⟨i, 0, 3, rfl, h1, h2⟩) rfl
theorem sc_check_plan : FnScope ["plan", "things", "probes", "number", "probe"] ["plan"] (defScope s_check_plan) := ⟨rfl, rfl, rfl, by decide +kernel, rfl, by decide +kernel, by decide +kernel⟩
structure GoodP (n : Nat) (ps : List PyData) : Prop where
  n1 : 1 ≤ n
  n10 : n ≤ 10
  len : ps.length ≤ 16
  all : ∀ p ∈ ps, isProbeD n p = true
abbrev sp_check_plan (K : PySem.W.Frag) (T : List (Addr × Str)) : Sp := spD K T (fun ds => ∃ (n : Nat) (ps : List PyData), ds = [.tuple [.int n, .tuple ps]] ∧ GoodP n ps) F_none
theorem ok_check_plan {f f1 f2 : Addr} {fd fd1 fd2 : FuncData} (Fn : Fun K "check_plan" "check_plan" s_check_plan f fd) (X : Txt mg) (F1 : FnOk P w K mg base CX0 1 f1 fd1 ["value", "low", "high"] (sp_within K T)) (k1 : PySem.W.keepIn K (.ref f1) = true) (b1 : Binds K fd1 ["value", "low", "high"] []) (m1 : mg "is_within" = some (.ref f1))
    (F2 : FnOk P w K mg base CX0 3 f2 fd2 ["value", "things"] (sp_is_probe K T)) (k2 : PySem.W.keepIn K (.ref f2) = true) (b2 : Binds K fd2 ["value", "things"] []) (m2 : mg "is_probe" = some (.ref f2)) :
    FnOk P w K mg base CX0 4 f fd ["plan"] (sp_check_plan K T) := by
  refine ok_defD Fn sc_check_plan (fun ds ⟨_, _, e, _⟩ => by rw [e]; rfl) fun cdv A outer s H E' hr => ?_
  obtain ⟨tt, mt⟩ := X.MOST_THINGS
  obtain ⟨tp, mp⟩ := X.MOST_PROBES
  have hr1 : Room 1 (A.deeper (envOfC "check_plan" (defScope s_check_plan) s.heap.objs.size f cdv)) := hr.mono (by decide)
  refine ⟨_, (pss_cons (ps_if (PW.pt (pw_or (pt_not (pt_val (pe_callB (r := rIsi K) call_isi (by rfl) X.isinstance bt_isinstance (pa_cons (pv 0) (pa_cons (pe_bltn (v := .ty "tuple") (by rfl) X.tuple bt_tuple rfl) pa_nil))))) (pw_or1 (pt_cmpR op_ne (pe_callB (r := rLenQ K) call_len_seq (by rfl) X.len bt_len (pa_cons (pv 0) pa_nil)) pe_int (nomark _))))) (pss_one ps_never) pss_nil)
  (pss_cons (ps_asg (pv 0) (pg_tup rfl (pgs_cons (pg_name (i := 1) sc_check_plan.nd rfl (by first | exact Or.inl rfl | exact Or.inr rfl)) (pgs_cons (pg_name (i := 2) sc_check_plan.nd rfl (by first | exact Or.inl rfl | exact Or.inr rfl)) pgs_nil))))
  (pss_cons (ps_if (pt_not (pt_val (pe_call F1 hr1 (by rfl) m1 k1 b1 .nil pass0 (pa_cons (pv 1) (pa_cons pe_int (pa_cons (pe_glob (v := .int 10) (by rfl) mt ⟨_, rfl⟩) pa_nil)))))) (pss_one ps_never) pss_nil)
  (pss_cons (ps_if (pt_not (pt_val (pe_callB (r := rIsi K) call_isi (by rfl) X.isinstance bt_isinstance (pa_cons (pv 2) (pa_cons (pe_bltn (v := .ty "tuple") (by rfl) X.tuple bt_tuple rfl) pa_nil))))) (pss_one ps_never) pss_nil)
  (pss_one (ps_for PassesOwn.never rfl (pi_enumT (by rfl) X.enumerate (pa_cons (pv 2) pa_nil)) (pg_tup rfl (pgs_cons (pg_name (i := 3) sc_check_plan.nd rfl (by first | exact Or.inl rfl | exact Or.inr rfl)) (pgs_cons (pg_name (i := 4) sc_check_plan.nd rfl (by first | exact Or.inl rfl | exact Or.inr rfl)) pgs_nil))) (pss_one (ps_if (PW.pt (pw_or (pt_cmpR op_eq (pv 3) (pe_glob (v := .int 16) (by rfl) mp ⟨_, rfl⟩) (nomark _)) (pw_or1 (pt_not (pt_val (pe_call F2 hr (by rfl) m2 k2 b2 .nil pass0 (pa_cons (pv 4) (pa_cons (pv 1) pa_nil)))))))) (pss_one ps_never) pss_nil)))))))), ?_⟩
  rintro ds ⟨n, ps, rfl, hg⟩
  refine s_seq (s_if (t_or (b := false) (t_not (t_B (e_isi e_var (kb_tup _)))) fun _ => t_B (E.is (e_ne (e_len (ds := [.int n, .tuple ps]) (a_cons e_var a_nil) (.inr rfl)) e_int rfl) rfl)) (fun h => by cases h) fun _ => s_next ?_)
  refine s_seq (s_asgTg e_var (tg_pair (vs := [1, 2]) (by decide) (by decide)) ?_)
  have hw : withinD (.int n) 1 10 = true := by
    have := hg.n1; have := hg.n10
    show (decide ((1 : Int) ≤ n) && decide ((n : Int) ≤ 10)) = true; rw [decide_eq_true (show (1 : Int) ≤ n by omega), decide_eq_true (show (n : Int) ≤ 10 by omega)]; rfl
  refine s_seq (s_if (t_not (t_B (b := true) (E.is (e_callD (F := F_within) (ds := [.int n, .int 1, .int 10]) (a_cons e_var (a_cons e_int (a_cons e_int a_nil))) ⟨_, 1, 10, rfl⟩) (congrArg PyData.bool hw)))) (fun h => by cases h) fun _ => s_next ?_)
  refine s_seq (s_if (t_not (t_B (e_isi e_var (kb_tup _)))) (fun h => by cases h) fun _ => s_next ?_)
  refine s_for (vs := [3, 4]) (fun i G' => ∃ x y, G' = [some (.dat (.tuple [.int n, .tuple ps])), some (.dat (.int n)), some (.dat (.tuple ps)), x, y]) (i_enumT (a_cons e_var a_nil)) ⟨none, none, rfl⟩ ?_ (fun _ _ => rfl)
  rintro i d G' hi ⟨p, hp, rfl⟩ ⟨x, y, rfl⟩
  refine ⟨_, tg_pair (by decide) (by decide), ?_⟩
  have hpm : p ∈ ps := List.mem_of_getElem? hp
  have h16 : eqD (.int i) (.int 16) = false := by
    show decide ((i : Int) = 16) = false
    have := hg.len
    exact decide_eq_false (by omega)
  refine s_if (t_or (a := false) (b := false) (t_B (E.is (e_eq e_var e_int rfl) (congrArg PyData.bool h16))) fun _ => ?_) (fun h => by cases h) fun _ => s_next ⟨_, _, rfl⟩
  exact ET.is (t_not (t_B (b := true) (E.is (e_callD (F := F_is_probe) (ds := [p, .int n]) (a_cons e_var (a_cons e_var a_nil)) ⟨p, n, rfl⟩) (congrArg PyData.bool (hg.all p hpm))))) rfl
/-! the first that is wrong -/
/-- what is told of values: none where all are right and as many as wanted -/
theorem sc_first_wrong : FnScope ["values", "many", "is_right", "number", "value"] ["values", "many", "is_right"] (defScope s_first_wrong) := ⟨rfl, rfl, rfl, by decide +kernel, rfl, by decide +kernel, by decide +kernel⟩
abbrev F_is (p : PyData → Bool) : List PyData → PyData
  | [v] => .bool (p v)
  | _ => .none
abbrev sp_is (K : PySem.W.Frag) (T : List (Addr × Str)) (p : PyData → Bool) : Sp := spD K T (fun ds => ∃ v, ds = [v]) (F_is p)
abbrev sp_first (K : PySem.W.Frag) (T : List (Addr × Str)) (g : Addr) (p : PyData → Bool) : Sp := spA K T (fun os => ∃ ts : List PyData, os = [.dat (.tuple ts), .dat (.int ts.length), .fn g] ∧ ∀ d ∈ ts, p d = true) (fun _ d => d = .none)
theorem ok_first_wrong {f g : Addr} {fd fdg : FuncData} {p : PyData → Bool} {a : Str} (Fn : Fun K "first_wrong" "first_wrong" s_first_wrong f fd) (X : Txt mg)
    (Fg : FnOk P w K mg base CX0 2 g fdg [a] (sp_is K T p)) (kg : PySem.W.keepIn K (.ref g) = true) (bg : Binds K fdg [a] []) :
    FnOk P w K mg base CX0 3 f fd ["values", "many", "is_right"] (sp_first K T g p) := by
  refine ok_def Fn sc_first_wrong (fun os ⟨_, e, _⟩ => by rw [e]; rfl) fun cdv A outer s H E' hr => ?_
  refine ⟨_, (pss_cons (ps_if (pt_not (pt_val (pe_callB (r := rIsi K) call_isi (by rfl) X.isinstance bt_isinstance (pa_cons (pv 0) (pa_cons (pe_bltn (v := .ty "tuple") (by rfl) X.tuple bt_tuple rfl) pa_nil))))) (pss_one (ps_ret pe_int)) pss_nil)
  (pss_cons (ps_for PassesOwn.never rfl (pi_enumT (by rfl) X.enumerate (pa_cons (pv 0) pa_nil)) (pg_tup rfl (pgs_cons (pg_name (i := 3) sc_first_wrong.nd rfl (by first | exact Or.inl rfl | exact Or.inr rfl)) (pgs_cons (pg_name (i := 4) sc_first_wrong.nd rfl (by first | exact Or.inl rfl | exact Or.inr rfl)) pgs_nil))) (pss_one (ps_if (PW.pt (pw_or (pt_cmpR op_eq (pv 3) (pv 1) (nomark _)) (pw_or1 (pt_not (pt_val (pe_callL (i := 2) Fg hr rfl (by first | exact Or.inl rfl | exact Or.inr rfl) kg bg .nil pass0 (pa_cons (pv 4) pa_nil))))))) (pss_one (ps_ret (pv 3))) pss_nil)))
  (pss_one (ps_ret (pe_ifExp (pt_cmpR op_lt (pe_callB (r := rLenQ K) call_len_seq (by rfl) X.len bt_len (pa_cons (pv 0) pa_nil)) (pv 1) (nomark _)) (pe_callB (r := rLenQ K) call_len_seq (by rfl) X.len bt_len (pa_cons (pv 0) pa_nil)) pe_non))))), ?_⟩
  rintro os ⟨ts, rfl, hg⟩
  refine s_seq (s_if (t_not (t_B (e_isi e_var (kb_tup _)))) (fun h => by cases h) fun _ => s_next ?_)
  refine s_seq (s_for (vs := [3, 4]) (fun i G' => ∃ x y, G' = [some (.dat (.tuple ts)), some (.dat (.int ts.length)), some (.fn g), x, y]) (i_enumT (a_cons e_var a_nil)) ⟨none, none, rfl⟩ ?_ ?_)
  · rintro i d G' hi ⟨v, hp, rfl⟩ ⟨x, y, rfl⟩
    refine ⟨_, tg_pair (by decide) (by decide), ?_⟩
    have hpm : v ∈ ts := List.mem_of_getElem? hp
    have h16 : eqD (.int i) (.int ts.length) = false := by
      show decide ((i : Int) = ts.length) = false
      exact decide_eq_false (by omega)
    refine s_if (t_or (a := false) (b := false) (t_B (E.is (e_eq e_var e_var rfl) (congrArg PyData.bool h16))) fun _ => ?_) (fun h => by cases h) fun _ => s_next ⟨_, _, rfl⟩
    exact ET.is (t_not (t_B (b := true) (E.is (e_callLD (F := F_is p) (ds := [v]) rfl (a_cons e_var a_nil) ⟨v, rfl⟩) (congrArg PyData.bool (hg v hpm))))) rfl
  · rintro G' ⟨x, y, rfl⟩
    refine s_ret (d := .none) (e_if (b := false) (t_B (E.is (e_cmp (f := fun i j => decide (i < j)) (e_len (a_cons e_var a_nil) (.inr rfl)) e_var) (congrArg PyData.bool (decide_eq_false (by omega))))) (fun h => by cases h) fun _ => e_non) rfl
theorem sp_is_eq {f : Addr} {fd : FuncData} {k : Nat} (F : FnOk P w K mg base CX0 k f fd ["value"] (sp_is_answer K T)) : FnOk P w K mg base CX0 k f fd ["value"] (sp_is K T isAnsD) := by
  have e : F_is_answer = F_is isAnsD := by
    funext ds
    match ds with
    | [] => rfl
    | [_] => rfl
    | _ :: _ :: _ => rfl
  unfold sp_is
  rw [← e]
  exact F
theorem sc_check_answers : FnScope ["told", "many", "number"] ["told", "many"] (defScope s_check_answers) := ⟨rfl, rfl, rfl, by decide +kernel, rfl, by decide +kernel, by decide +kernel⟩
abbrev sp_check_answers (K : PySem.W.Frag) (T : List (Addr × Str)) : Sp := spD K T (fun ds => ∃ (ts : List PyData), ds = [.tuple ts, .int ts.length] ∧ ∀ d ∈ ts, isAnsD d = true) F_none
theorem ok_check_answers {f f1 g : Addr} {fd fd1 : FuncData} (Fn : Fun K "check_answers" "check_answers" s_check_answers f fd)
    (F1 : FnOk P w K mg base CX0 3 f1 fd1 ["values", "many", "is_right"] (sp_first K T g isAnsD)) (k1 : PySem.W.keepIn K (.ref f1) = true) (b1 : Binds K fd1 ["values", "many", "is_right"] []) (m1 : mg "first_wrong" = some (.ref f1)) (mA : mg "is_answer" = some (.ref g)) :
    FnOk P w K mg base CX0 4 f fd ["told", "many"] (sp_check_answers K T) := by
  refine ok_defD Fn sc_check_answers (fun ds ⟨_, e, _⟩ => by rw [e]; rfl) fun cdv A outer s H E' hr => ?_
  refine ⟨_, (pss_cons (ps_set (i := 2) sc_check_answers.nd rfl (by first | exact Or.inl rfl | exact Or.inr rfl) (pe_call F1 hr (by rfl) m1 k1 b1 .nil pass0 (pa_cons (pv 0) (pa_cons (pv 1) (pa_cons (pe_glob (v := .ref g) (by rfl) mA rfl) pa_nil)))))
  (pss_one (ps_if (pt_cmp (pc_notN (pv 2)) rfl) (pss_one ps_never) pss_nil))), ?_⟩
  rintro ds ⟨ts, rfl, hg⟩
  refine s_seq (s_asg (d := .none) (e_call (os := [.dat (.tuple ts), .dat (.int ts.length), .fn g]) (a_cons e_var (a_cons e_var (a_fn a_nil))) ⟨ts, rfl, hg⟩ fun d e => e) ?_)
  exact s_if (t_B (b := false) (E.is (e_notN e_var) rfl)) (fun h => by cases h) fun _ => s_next rfl
theorem sc_check_slips : FnScope ["slips"] ["slips"] (defScope s_check_slips) := ⟨rfl, rfl, rfl, by decide +kernel, rfl, by decide +kernel, by decide +kernel⟩
abbrev sp_check_slips (K : PySem.W.Frag) (T : List (Addr × Str)) : Sp := spD K T (fun ds => ∃ i : Int, ds = [.int i] ∧ 0 ≤ i ∧ i ≤ 16) F_none
theorem ok_check_slips {f f1 : Addr} {fd fd1 : FuncData} (Fn : Fun K "check_slips" "check_slips" s_check_slips f fd) (X : Txt mg) (F1 : FnOk P w K mg base CX0 2 f1 fd1 ["value", "low", "high"] (sp_check_count K T)) (k1 : PySem.W.keepIn K (.ref f1) = true) (b1 : Binds K fd1 ["value", "low", "high"] []) (m1 : mg "check_count" = some (.ref f1)) :
    FnOk P w K mg base CX0 3 f fd ["slips"] (sp_check_slips K T) := by
  refine ok_defD Fn sc_check_slips (fun ds ⟨_, e, _⟩ => by rw [e]; rfl) fun cdv A outer s H E' hr => ?_
  obtain ⟨t, mt⟩ := X.MOST_SLIPS
  refine ⟨_, (pss_one (ps_expr (pe_call F1 hr (by rfl) m1 k1 b1 .nil pass0 (pa_cons (pv 0) (pa_cons pe_int (pa_cons (pe_glob (v := .int 16) (by rfl) mt ⟨_, rfl⟩) pa_nil)))))), ?_⟩
  rintro ds ⟨i, rfl, h1, h2⟩
  exact s_drop (e_callD (F := F_none) (ds := [.int i, .int 0, .int 16]) (a_cons e_var (a_cons e_int (a_cons e_int a_nil))) ⟨i, 0, 16, rfl, h1, h2⟩) rfl
theorem lotGo_ok {n : Int} : ∀ {xs : List PyData} {l : Int}, lotGo n l xs = true → xs.all flatD = true ∧ (xs.length : Int) ≤ max (n - l) 0 ∧ ∀ d ∈ xs, ∃ i : Int, d = .int i ∧ l ≤ i ∧ i < n
  | [], l, _ => ⟨rfl, by rw [List.length_nil]; omega, fun d h => by cases h⟩
  | .int i :: r, l, h => by
    have h' : ((decide (l ≤ i) && decide (i ≤ n - 1)) && lotGo n (i + 1) r) = true := h
    rw [Bool.and_eq_true, Bool.and_eq_true] at h'
    obtain ⟨⟨h1, h2⟩, h3⟩ := h'
    have h1 := of_decide_eq_true h1
    have h2 := of_decide_eq_true h2
    obtain ⟨a, b, c⟩ := lotGo_ok h3
    refine ⟨by rw [List.all_cons, a]; rfl, by rw [List.length_cons]; omega, fun d hd => ?_⟩
    rcases List.mem_cons.mp hd with rfl | hd
    · exact ⟨i, rfl, h1, by omega⟩
    · obtain ⟨j, e, q1, q2⟩ := c d hd
      exact ⟨j, e, by omega, q2⟩
  | .none :: r, l, h => by cases h
  | .bool _ :: r, l, h => by cases h
  | .str _ :: r, l, h => by cases h
  | .list _ :: r, l, h => by cases h
  | .tuple _ :: r, l, h => by cases h
  | .dict _ :: r, l, h => by cases h
theorem probe_ok {n : Nat} {p : PyData} (h : isProbeD n p = true) (hn : n ≤ 10) : ∃ xs, p = .tuple xs ∧ FlatT xs := by
  cases p with
  | tuple xs =>
    have h' : (lotGo n 0 xs && decide ((0 : Int) < xs.length)) = true := h
    rw [Bool.and_eq_true] at h'
    obtain ⟨a, b, _⟩ := lotGo_ok h'.1
    exact ⟨xs, rfl, a, by omega⟩
  | _ => cases h
/-! all lots -/
def lotsN (n m : Nat) : List PyData := (rng (m + 1)).flatMap fun r => match r with
  | .int i => (combs n i.toNat).map lotD
  | _ => []
theorem flat_ints : ∀ l : List Nat, (l.map fun (j : Nat) => PyData.int j).all flatD = true
  | [] => rfl
  | j :: r => by rw [List.map_cons, List.all_cons, flat_ints r]; rfl
theorem combs_ok {n r : Nat} (hn : n < 11) (hr : r < 4) {l : List Nat} (h : l ∈ combs n r) : l.length ≤ 1000 ∧ ∀ j ∈ l, j < n := by
  have q := okC_all n hn r hr
  unfold okC at q
  rw [Bool.and_eq_true] at q
  have z := List.all_eq_true.mp q.2 l h
  rw [Bool.and_eq_true] at z
  exact ⟨of_decide_eq_true z.1, fun j hj => of_decide_eq_true (List.all_eq_true.mp z.2 j hj)⟩
theorem lots_ok {n m : Nat} (hn : n < 11) (hm : m < 4) {l : PyData} (h : l ∈ lotsN n m) : ∃ js : List Nat, l = lotD js ∧ js.length ≤ 1000 ∧ ∀ j ∈ js, j < n := by
  obtain ⟨r, hr, hl⟩ := List.mem_flatMap.mp h
  obtain ⟨i, hi, rfl⟩ := mem_rng hr
  obtain ⟨js, hj, rfl⟩ := List.mem_map.mp (show l ∈ (combs n i).map lotD from hl)
  obtain ⟨a, b⟩ := combs_ok hn (by omega) hj
  exact ⟨js, rfl, a, b⟩
theorem lotD_flat {js : List Nat} (h : js.length ≤ 1000) : FlatT (js.map fun (j : Nat) => PyData.int j) := ⟨flat_ints js, by rw [List.length_map]; exact h⟩
theorem lots_len : ∀ n, n < 11 → ∀ m, m < 4 → (lotsN n m).length < 1000 := by decide +kernel
theorem sc_lots_up_to : FnScope ["things", "most", "size", "lot"] ["things", "most"] (defScope s_lots_up_to) := ⟨rfl, rfl, rfl, by decide +kernel, rfl, by decide +kernel, by decide +kernel⟩
def F_lots_up_to : List PyData → List PyData
  | [.int n, .int m] => lotsN n.toNat m.toNat
  | _ => []
abbrev sp_lots_up_to (K : PySem.W.Frag) (T : List (Addr × Str)) : Sp := spDL K T (fun ds => ∃ n m : Nat, ds = [.int n, .int m] ∧ n < 11 ∧ m < 4) F_lots_up_to
theorem ok_lots_up_to {f : Addr} {fd : FuncData} (Fn : Fun K "lots_up_to" "lots_up_to" s_lots_up_to f fd) (X : Txt mg) (mc : mg "combinations" = some (.type "itertools.combinations")) :
    FnOk P w K mg base CX0 2 f fd ["things", "most"] (sp_lots_up_to K T) := by
  refine ok_defDL Fn sc_lots_up_to (fun ds ⟨_, _, e, _⟩ => by rw [e]; rfl) fun cdv A outer s H E' hr => ?_
  refine ⟨_, (pss_one (ps_ret (pe_lc2 (own := [("size", 2), ("lot", 3)]) (vs1 := [3]) rfl sc_lots_up_to.nd (pi_range1 rfl X.range (pa_cons (pe_op op_add (pv 1) pe_int) pa_nil)) (blkOk_by (N := ["things", "most", "size", "lot"]) (sc := defScope s_lots_up_to) (by decide +kernel)) (by decide)
    (fun _ _ _ _ _ => (pg_name (i := 2) sc_lots_up_to.nd rfl (by first | exact Or.inl rfl | exact Or.inr rfl))) (fun _ _ _ _ _ => pts_nil)
    (fun _ _ _ _ _ => pi_comb rfl (by rfl) mc (by rfl) X.range (pv 0) (pv 2))
    (fun _ _ _ _ _ => (pg_name (i := 3) sc_lots_up_to.nd rfl (by first | exact Or.inl rfl | exact Or.inr rfl))) (fun _ _ _ _ _ => pts_nil) (fun _ _ _ _ _ => (pv 3))))), ?_⟩
  rintro ds ⟨n, m, rfl, hn, hm⟩
  have hl := lots_len n hn m hm
  have em : ((m : Int) + 1) = ((m + 1 : Nat) : Int) := by omega
  refine s_retL (el_lc2D (vs := [2, 3]) (vs1 := [3]) (ds := rng (m + 1)) (fun r => match r with | .int i => (combs n i.toNat).map lotD | _ => []) (fun _ e => e) (i_rngN (EA.is (a_cons (e_add e_var e_int) a_nil) (by rw [em])) (by omega)) (fun d hd => ?_) ?_) fun d h => ?_
  · obtain ⟨i, hi, rfl⟩ := mem_rng hd
    refine ⟨_, tg_name (by decide), i_comb (n := n) (r := i) e_var e_var (inB_of hn (by omega)), fun e he => ⟨_, tg_name (by decide), e_var⟩⟩
  · have e1 : ((rng (m + 1)).flatMap fun d => ((match d with | .int i => (combs n i.toNat).map lotD | _ => []) : List PyData).map fun e => e) = lotsN n m := by
      unfold lotsN
      congr 1
      funext d
      rw [List.map_id']
    rw [e1]
    omega
  · rw [h]
    show _ = lotsN n m
    unfold lotsN
    congr 1
    funext d
    rw [List.map_id']
/-! slips -/
def slipB : PyData → Bool
  | .tuple [a, b] => !isNone a && !eqD a b
  | _ => false
def slipsN (ts rs : List PyData) : Nat := ((zipD ts rs).filter slipB).length
def F_slips_in : List PyData → PyData
  | [.tuple ts, .tuple rs] => .int (slipsN ts rs)
  | _ => .none
theorem sum_ones {α : Type} : ∀ l : List α, (l.map fun _ => (1 : Int)).sum = l.length
  | [] => rfl
  | x :: r => by rw [List.map_cons, List.sum_cons, sum_ones r, List.length_cons]; omega
def IntD (d : PyData) : Prop := ∃ i, d = .int i
theorem ans_or {d : PyData} (h : isAnsD d = true) : d = .none ∨ d = .int 0 ∨ d = .int 1 := by
  cases d with
  | none => exact .inl rfl
  | int i =>
    have h' : (decide ((0 : Int) ≤ i) && decide (i ≤ 1)) = true := h
    rw [Bool.and_eq_true] at h'
    have a := of_decide_eq_true h'.1
    have b := of_decide_eq_true h'.2
    rcases (show i = 0 ∨ i = 1 by omega) with rfl | rfl
    · exact .inr (.inl rfl)
    · exact .inr (.inr rfl)
  | _ => cases h
theorem mem_zipD {ts rs : List PyData} {d : PyData} (h : d ∈ zipD ts rs) : ∃ a b, d = .tuple [a, b] ∧ a ∈ ts ∧ b ∈ rs := by
  obtain ⟨p, hp, rfl⟩ := List.mem_map.mp h
  obtain ⟨h1, h2⟩ := List.of_mem_zip (a := p.1) (b := p.2) hp
  exact ⟨p.1, p.2, rfl, h1, h2⟩
theorem sc_slips_in : FnScope ["told", "right", "one", "other"] ["told", "right"] (defScope s_slips_in) := ⟨rfl, rfl, rfl, by decide +kernel, rfl, by decide +kernel, by decide +kernel⟩
abbrev sp_slips_in (K : PySem.W.Frag) (T : List (Addr × Str)) : Sp := spD K T (fun ds => ∃ ts rs, ds = [.tuple ts, .tuple rs] ∧ ts.length = rs.length ∧ ts.length ≤ 1000 ∧ (∀ d ∈ ts, isAnsD d = true) ∧ ∀ d ∈ rs, IntD d) F_slips_in
theorem ok_slips_in {f : Addr} {fd : FuncData} (Fn : Fun K "slips_in" "slips_in" s_slips_in f fd) (X : Txt mg) :
    FnOk P w K mg base CX0 1 f fd ["told", "right"] (sp_slips_in K T) := by
  refine ok_defD Fn sc_slips_in (fun ds ⟨_, _, e, _⟩ => by rw [e]; rfl) fun cdv A outer s H E' hr => ?_
  refine ⟨_, (pss_one (ps_ret (pe_callB (r := rSum K) (cr_sum rfl) (by rfl) X.sum bt_sum (pa_cons (pe_lc (g := gTup K 2 (gCons (gName 2) (gCons (gName 3) gNil))) (own := [("one", 2), ("other", 3)]) rfl sc_slips_in.nd (RZ.pi_zipA (by rfl) X.zip (pa_cons (pv 0) (pa_cons (pv 1) pa_nil))) (blkOk_by (N := ["told", "right", "one", "other"]) (sc := defScope s_slips_in) (by decide +kernel)) (fun _ _ _ _ _ => (pg_tup rfl (pgs_cons (pg_name (i := 2) sc_slips_in.nd rfl (by first | exact Or.inl rfl | exact Or.inr rfl)) (pgs_cons (pg_name (i := 3) sc_slips_in.nd rfl (by first | exact Or.inl rfl | exact Or.inr rfl)) pgs_nil)))) (fun _ _ _ _ _ => (pts_one (PW.pt (pw_and (pt_cmp (pc_notN (pv 2)) rfl) (pw_and1 (pt_cmpR op_ne (pv 2) (pv 3) (nomark _))))))) (fun _ _ _ _ _ => pe_int)) pa_nil)))), ?_⟩
  rintro ds ⟨ts, rs, rfl, hl, hn, h1, h2⟩
  have hz : (zipD ts rs).length = ts.length := by simp [zipD, hl]
  have comp := el_lcD (K := K) (T := T) (vs := [2, 3]) slipB (fun _ => .int 1) (i_zipD (K' := K) (G := [some (.dat (.tuple ts)), some (.dat (.tuple rs)), none, none]) (a_cons (e_var (i := 0)) (a_cons (e_var (i := 1)) a_nil)) hl) (tt := tAnd (tB (tNotN (tVar 2))) (tB (tOp rNe (tVar 2) (tVar 3)))) (te := tC (.int 1)) (g := gTup K 2 (gCons (gName 2) (gCons (gName 3) gNil))) (fun d hd => ?_) (by omega)
  · have e1 : ((zipD ts rs).filter slipB).map (fun _ => PyData.int 1) = (((zipD ts rs).filter slipB).map fun _ => (1 : Int)).map .int := by rw [List.map_map]; rfl
    rw [e1] at comp
    exact s_ret ((e_sum (a_cons comp.is a_nil)).is (congrArg PyData.int (sum_ones _))) rfl
  · obtain ⟨a, b, rfl, ha, hb⟩ := mem_zipD hd
    refine ⟨_, tg_pair (by decide) (by decide), ET.is (t_and (t_B (e_notN e_var)) fun h => t_B (e_ne e_var e_var ?_)) rfl, fun _ => e_int⟩
    obtain ⟨i, rfl⟩ := h2 b hb
    rcases ans_or (h1 a ha) with rfl | rfl | rfl <;> rfl
/-! how many lots have a thing -/
def inLot (d : PyData) : PyData → Bool
  | .tuple xs => memD xs d
  | _ => false
def haveN (d : PyData) (ls : List PyData) : Nat := (ls.filter (inLot d)).length
def F_how_many_have : List PyData → PyData
  | [d, .list ls] => .int (haveN d ls)
  | _ => .none
theorem sc_how_many_have : FnScope ["thing", "lots", "lot"] ["thing", "lots"] (defScope s_how_many_have) := ⟨rfl, rfl, rfl, by decide +kernel, rfl, by decide +kernel, by decide +kernel⟩
def FlatLs (ls : List PyData) : Prop := ls.length ≤ 1000 ∧ ∀ l ∈ ls, ∃ xs, l = .tuple xs ∧ FlatT xs
abbrev sp_how_many_have (K : PySem.W.Frag) (T : List (Addr × Str)) : Sp := spD K T (fun ds => ∃ (i : Int) (ls : List PyData), ds = [.int i, .list ls] ∧ FlatLs ls) F_how_many_have
theorem ok_how_many_have {f : Addr} {fd : FuncData} (Fn : Fun K "how_many_have" "how_many_have" s_how_many_have f fd) (X : Txt mg) :
    FnOk P w K mg base CX0 1 f fd ["thing", "lots"] (sp_how_many_have K T) := by
  refine ok_defD Fn sc_how_many_have (fun ds ⟨_, _, e, _⟩ => by rw [e]; rfl) fun cdv A outer s H E' hr => ?_
  refine ⟨_, (pss_one (ps_ret (pe_callB (r := rSum K) (cr_sum rfl) (by rfl) X.sum bt_sum (pa_cons (pe_lc (own := [("lot", 2)]) rfl sc_how_many_have.nd (pi_list (pv 1)) (blkOk_by (N := ["thing", "lots", "lot"]) (sc := defScope s_how_many_have) (by decide +kernel)) (fun _ _ _ _ _ => (pg_name (i := 2) sc_how_many_have.nd rfl (by first | exact Or.inl rfl | exact Or.inr rfl))) (fun _ _ _ _ _ => (pts_one (pt_cmpR (r := rIn K false) op_in_seq (pv 0) (pv 2) (by rfl)))) (fun _ _ _ _ _ => pe_int)) pa_nil)))), ?_⟩
  rintro ds ⟨i, ls, rfl, hn, h⟩
  have comp := el_lcD (K := K) (T := T) (vs := [2]) (inLot (.int i)) (fun _ => .int 1) (i_list (K' := K) (G := [some (.dat (.int i)), some (.dat (.list ls)), none]) (e_var (i := 1))) (tt := tB (tOp (rIn K false) (tVar 0) (tVar 2))) (te := tC (.int 1)) (g := gName 2) (fun d hd => ?_) (Nat.le_trans hn (by decide))
  · have e1 : (ls.filter (inLot (.int i))).map (fun _ => PyData.int 1) = ((ls.filter (inLot (.int i))).map fun _ => (1 : Int)).map .int := by rw [List.map_map]; rfl
    rw [e1] at comp
    exact s_ret ((e_sum (a_cons comp.is a_nil)).is (congrArg PyData.int (sum_ones _))) rfl
  · obtain ⟨xs, rfl, hx⟩ := h d hd
    exact ⟨_, tg_name (by decide), t_B (e_inSeq e_var e_var (.inr rfl) rfl hx.1), fun _ => e_int⟩
end
end K03

namespace K03
open PySem PySem.Spec L2 Dv DvC
open PyProof.Rows hiding St
section
variable {P : Program} {w : World} {K : PySem.W.Frag} {mg : Str → Option Value} {base : Heap} {T : List (Addr × Str)}
/-! could -/
def cnt (ps ts : List PyData) (l : PyData) : Nat := slipsN ts (ps.map fun p => ansD p l)
def couldL (n : Nat) (ps ts : List PyData) (m sl : Nat) : List PyData := ((lotsN n m).filter fun l => decide (cnt ps ts l ≤ sl)).map fun l => .tuple [l, .int (cnt ps ts l)]
def F_could : List PyData → List PyData
  | [.tuple [.int n, .tuple ps], .tuple ts, .int m, .int sl] => couldL n.toNat ps ts m.toNat sl.toNat
  | _ => []
structure Pre (n : Nat) (ps ts : List PyData) (m sl : Nat) : Prop where
  g : GoodP n ps
  lt : ts.length = ps.length
  ta : ∀ d ∈ ts, isAnsD d = true
  m3 : m ≤ 3
  s16 : sl ≤ 16
theorem Pre.ps_ok {n : Nat} {ps ts : List PyData} {m sl : Nat} (h : Pre n ps ts m sl) : ∀ p ∈ ps, ∃ xs, p = .tuple xs ∧ FlatT xs := fun p hp => probe_ok (h.g.all p hp) h.g.n10
theorem Pre.lot {n : Nat} {ps ts : List PyData} {m sl : Nat} (h : Pre n ps ts m sl) {l : PyData} (hl : l ∈ lotsN n m) : ∃ xs, l = .tuple xs ∧ FlatT xs := by
  have := h.g.n10
  have := h.m3
  obtain ⟨js, rfl, a, _⟩ := lots_ok (by omega) (by omega) hl
  exact ⟨_, rfl, lotD_flat a⟩
theorem Pre.len {n : Nat} {ps ts : List PyData} {m sl : Nat} (h : Pre n ps ts m sl) : (lotsN n m).length < 1000 := by
  have := h.g.n10
  have := h.m3
  exact lots_len n (by omega) m (by omega)
abbrev sp_could (K : PySem.W.Frag) (T : List (Addr × Str)) : Sp := spDL K T (fun ds => ∃ (n : Nat) (ps ts : List PyData) (m sl : Nat), ds = [.tuple [.int n, .tuple ps], .tuple ts, .int m, .int sl] ∧ Pre n ps ts m sl) F_could
/-- the answers of a lot -/
theorem ans_int {p l : PyData} (hp : ∃ xs, p = .tuple xs ∧ FlatT xs) (hl : ∃ xs, l = .tuple xs ∧ FlatT xs) : IntD (ansD p l) := by
  obtain ⟨a, rfl, _⟩ := hp
  obtain ⟨b, rfl, _⟩ := hl
  exact ⟨_, rfl⟩
theorem sc_could : FnScope ["plan", "told", "most", "slips", "things", "probes", "lot", "counted", "count"] ["plan", "told", "most", "slips"] (defScope s_could) := ⟨rfl, rfl, rfl, by decide +kernel, rfl, by decide +kernel, by decide +kernel⟩
def pairV (ps ts : List PyData) (l : PyData) : PyData := .tuple [l, .int (cnt ps ts l)]
def sndLe (sl : Nat) : PyData → Bool
  | .tuple [_, .int c] => decide (c ≤ (sl : Int))
  | _ => false
theorem sndLe_pair {ps ts : List PyData} {sl : Nat} {l : PyData} : sndLe sl (pairV ps ts l) = decide (cnt ps ts l ≤ sl) := by
  show decide ((cnt ps ts l : Int) ≤ (sl : Int)) = _
  exact decide_eq_decide.mpr (by omega)
theorem pair_filter {ps ts : List PyData} {sl : Nat} (L : List PyData) : ((L.map (pairV ps ts)).filter (sndLe sl)).map (fun d => d) = (L.filter fun l => decide (cnt ps ts l ≤ sl)).map fun l => .tuple [l, .int (cnt ps ts l)] := by
  rw [List.map_id']
  induction L with
  | nil => rfl
  | cons x r ih =>
    rw [List.map_cons, List.filter_cons, List.filter_cons, sndLe_pair, ih]
    by_cases h : decide (cnt ps ts x ≤ sl) = true
    · rw [if_pos h, if_pos h]; rfl
    · rw [if_neg h, if_neg h]
theorem ok_could {f f1 f2 f3 f4 f5 f6 f7 : Addr} {fd fd1 fd2 fd3 fd4 fd5 fd6 fd7 : FuncData} (Fn : Fun K "could" "could" s_could f fd) (X : Txt mg)
    (F1 : FnOk P w K mg base CX0 4 f1 fd1 ["plan"] (sp_check_plan K T)) (k1 : PySem.W.keepIn K (.ref f1) = true) (b1 : Binds K fd1 ["plan"] []) (m1 : mg "check_plan" = some (.ref f1))
    (F2 : FnOk P w K mg base CX0 4 f2 fd2 ["told", "many"] (sp_check_answers K T)) (k2 : PySem.W.keepIn K (.ref f2) = true) (b2 : Binds K fd2 ["told", "many"] []) (m2 : mg "check_answers" = some (.ref f2))
    (F3 : FnOk P w K mg base CX0 3 f3 fd3 ["most"] (sp_check_most K T)) (k3 : PySem.W.keepIn K (.ref f3) = true) (b3 : Binds K fd3 ["most"] []) (m3 : mg "check_most" = some (.ref f3))
    (F4 : FnOk P w K mg base CX0 3 f4 fd4 ["slips"] (sp_check_slips K T)) (k4 : PySem.W.keepIn K (.ref f4) = true) (b4 : Binds K fd4 ["slips"] []) (m4 : mg "check_slips" = some (.ref f4))
    (F5 : FnOk P w K mg base CX0 2 f5 fd5 ["things", "most"] (sp_lots_up_to K T)) (k5 : PySem.W.keepIn K (.ref f5) = true) (b5 : Binds K fd5 ["things", "most"] []) (m5 : mg "lots_up_to" = some (.ref f5))
    (F6 : FnOk P w K mg base CX0 1 f6 fd6 ["told", "right"] (sp_slips_in K T)) (k6 : PySem.W.keepIn K (.ref f6) = true) (b6 : Binds K fd6 ["told", "right"] []) (m6 : mg "slips_in" = some (.ref f6))
    (F7 : FnOk P w K mg base CX0 3 f7 fd7 ["probes", "lot"] (sp_answers_of K T)) (k7 : PySem.W.keepIn K (.ref f7) = true) (b7 : Binds K fd7 ["probes", "lot"] []) (m7 : mg "answers_of" = some (.ref f7)) :
    FnOk P w K mg base CX0 5 f fd ["plan", "told", "most", "slips"] (sp_could K T) := by
  refine ok_defDL Fn sc_could (fun ds ⟨_, _, _, _, _, e, _⟩ => by rw [e]; rfl) fun cdv A outer s H E' hr => ?_
  have hr1 : Room 1 (A.deeper (envOfC "could" (defScope s_could) s.heap.objs.size f cdv)) := hr.mono (by decide)
  have hr2 : Room 2 (A.deeper (envOfC "could" (defScope s_could) s.heap.objs.size f cdv)) := hr.mono (by decide)
  have hr3 : Room 3 (A.deeper (envOfC "could" (defScope s_could) s.heap.objs.size f cdv)) := hr.mono (by decide)
  refine ⟨_, (pss_cons (ps_expr (pe_call F1 hr (by rfl) m1 k1 b1 .nil pass0 (pa_cons (pv 0) pa_nil)))
  (pss_cons (ps_asg (pv 0) (pg_tup rfl (pgs_cons (pg_name (i := 4) sc_could.nd rfl (by first | exact Or.inl rfl | exact Or.inr rfl)) (pgs_cons (pg_name (i := 5) sc_could.nd rfl (by first | exact Or.inl rfl | exact Or.inr rfl)) pgs_nil))))
  (pss_cons (ps_expr (pe_call F2 hr (by rfl) m2 k2 b2 .nil pass0 (pa_cons (pv 1) (pa_cons (pe_callB (r := rLenQ K) call_len_seq (by rfl) X.len bt_len (pa_cons (pv 5) pa_nil)) pa_nil))))
  (pss_cons (ps_expr (pe_call F3 hr3 (by rfl) m3 k3 b3 .nil pass0 (pa_cons (pv 2) pa_nil)))
  (pss_cons (ps_expr (pe_call F4 hr3 (by rfl) m4 k4 b4 .nil pass0 (pa_cons (pv 3) pa_nil)))
  (pss_cons (ps_setLc (i := 7) (own := [("lot", 6)]) rfl sc_could.nd rfl rfl (sw_true rfl rfl rfl (by decide +kernel)) (pi_list (pe_call F5 hr2 (by rfl) m5 k5 b5 .nil pass0 (pa_cons (pv 4) (pa_cons (pv 2) pa_nil)))) (blkOk_by (N := ["plan", "told", "most", "slips", "things", "probes", "lot", "counted", "count"]) (sc := defScope s_could) (by decide +kernel)) (fun _ _ _ _ _ => (pg_name (i := 6) sc_could.nd rfl (by first | exact Or.inl rfl | exact Or.inr rfl))) (fun _ _ _ _ _ => pts_nil) (fun _ _ _ _ _ => (pe_tup (pa_cons (pv 6) (pa_cons (pe_call F6 hr1 (by rfl) m6 k6 b6 .nil pass0 (pa_cons (pv 1) (pa_cons (pe_call F7 hr3 (by rfl) m7 k7 b7 .nil pass0 (pa_cons (pv 5) (pa_cons (pv 6) pa_nil))) pa_nil))) pa_nil)))))
  (pss_one (ps_ret (pe_lc (g := gTup K 2 (gCons (gName 6) (gCons (gName 8) gNil))) (own := [("lot", 6), ("count", 8)]) rfl sc_could.nd (pi_list (pv 7)) (blkOk_by (N := ["plan", "told", "most", "slips", "things", "probes", "lot", "counted", "count"]) (sc := defScope s_could) (by decide +kernel)) (fun _ _ _ _ _ => (pg_tup rfl (pgs_cons (pg_name (i := 6) sc_could.nd rfl (by first | exact Or.inl rfl | exact Or.inr rfl)) (pgs_cons (pg_name (i := 8) sc_could.nd rfl (by first | exact Or.inl rfl | exact Or.inr rfl)) pgs_nil)))) (fun _ _ _ _ _ => (pts_one (pt_cmpR op_le (pv 8) (pv 3) (nomark _)))) (fun _ _ _ _ _ => (pe_tup (pa_cons (pv 6) (pa_cons (pv 8) pa_nil))))))))))))), ?_⟩
  rintro ds ⟨n, ps, ts, m, sl, rfl, h⟩
  have hL := h.len
  refine s_seq (s_drop (e_callD (F := F_none) (ds := [.tuple [.int n, .tuple ps]]) (a_cons e_var a_nil) ⟨n, ps, rfl, h.g⟩) ?_)
  refine s_seq (s_asgTg e_var (tg_pair (vs := [4, 5]) (by decide) (by decide)) ?_)
  refine s_seq (s_drop (e_callD (F := F_none) (ds := [.tuple ts, .int ts.length]) (a_cons e_var (a_cons ((e_len (ds := ps) (a_cons e_var a_nil) (.inr rfl)).is (by rw [h.lt])) a_nil)) ⟨ts, rfl, h.ta⟩) ?_)
  refine s_seq (s_drop (e_callD (F := F_none) (ds := [.int m]) (a_cons e_var a_nil) ⟨m, rfl, by omega, by have := h.m3; omega⟩) ?_)
  refine s_seq (s_drop (e_callD (F := F_none) (ds := [.int sl]) (a_cons e_var a_nil) ⟨sl, rfl, by omega, by have := h.s16; omega⟩) ?_)
  have hn10 := h.g.n10
  have hm3 := h.m3
  have h16 := h.g.len
  refine s_seq (s_asg (d := .list ((lotsN n m).map (pairV ps ts))) (EL.is (el_lcM (vs := [6]) (pairV ps ts) (i_list (EL.is (el_callD (F := F_lots_up_to) (ds := [.int n, .int m]) (a_cons e_var (a_cons e_var a_nil)) ⟨n, m, rfl, by omega, by omega⟩))) (fun d hd => ⟨_, tg_name (by decide), ?_⟩) (by show (lotsN n m).length ≤ _; omega))) ?_)
  · obtain ⟨xs, rfl, hx⟩ := h.lot (l := d) hd
    refine e_tup (a_cons e_var (a_cons (d := .int (cnt ps ts (.tuple xs))) (E.is (e_callD (F := F_slips_in) (ds := [.tuple ts, .tuple (ps.map fun p => ansD p (.tuple xs))]) (a_cons e_var (a_cons (e_callD (F := F_answers_of) (ds := [.tuple ps, .tuple xs]) (a_cons e_var (a_cons e_var a_nil)) ⟨ps, xs, rfl, by omega, h.ps_ok, hx⟩) a_nil)) ⟨ts, _, rfl, by rw [List.length_map]; exact h.lt, by have := h.lt; omega, h.ta, fun d hd => ?_⟩) rfl) a_nil)) (by show 2 ≤ 100000; decide)
    obtain ⟨p, hp, rfl⟩ := List.mem_map.mp hd
    exact ans_int (h.ps_ok p hp) ⟨xs, rfl, hx⟩
  refine s_retL (el_lcD (vs := [6, 8]) (sndLe sl) (fun d => d) (i_list e_var) (fun d hd => ?_) (by rw [List.length_map]; omega)) fun d hd => ?_
  · obtain ⟨l, hl, rfl⟩ := List.mem_map.mp hd
    exact ⟨_, tg_pair (by decide) (by decide), t_B (e_cmp (f := fun i j => decide (i ≤ j)) e_var e_var), fun _ => e_tup (a_cons e_var (a_cons e_var a_nil)) (by show 2 ≤ 100000; decide)⟩
  · rw [hd, pair_filter]
    rfl
/-! calls with keywords -/
theorem pair_app {α β : Type} {R : α → β → Prop} : ∀ {a : List α} {b : List β} {c : List α} {d : List β}, Paired R a b → Paired R c d → Paired R (a ++ c) (b ++ d)
  | _, _, _, _, .nil, h => h
  | _, _, _, _, .cons r t, h => .cons r (pair_app t h)
theorem pair_mono {W : Wd K T} {H H' : Hp} (e : Ex W H H') {vs : List V} {os : List Ob} (h : Paired (OD W H) vs os) : Paired (OD W H') vs os := L2.Paired.mapP h fun _ _ z => z.mono e
theorem el_callND {G : Dv.Ctx} {n m : Nat} {gV : List V → List V → List V} {Ex' : XK} {tr tk : TA} {ds es : List PyData} {pre : List PyData → Prop} {F : List PyData → List PyData} (h : EA K T tr G (· = dats ds)) (h2 : EA K T tk G (· = dats es)) (hn : ds.length = n) (hm : es.length = m)
    (hg : ∀ vs zs, gV vs zs = vs ++ zs) (hp : pre (ds ++ es)) : EL K T (tCallN n m (spDL K T pre F) gV Ex' tr tk) G (· = F (ds ++ es)) := fun W σ H s j Q q => h W σ H s j _ fun vs os H1 e1 j1 dv p => h2 W σ H1 (s.mono e1) j1 _ fun zs os2 H2 e2 j2 dz p2 => by
  subst p p2
  have l1 := Paired.length dv
  have l2 := Paired.length dz
  refine ⟨by rw [l1, dats, List.length_map, hn], by rw [l2, dats, List.length_map, hm], W, dats (ds ++ es), j2, ?_, ⟨_, rfl, hp⟩, fun p xs ds' H3 f j3 n3 h3 al ⟨ds2, e3, e4⟩ => q p xs ds' H3 (f.pre (e1.trans e2)) j3 n3 h3 al (by rw [e4, dats_inj e3])⟩
  rw [hg]
  unfold dats
  rw [List.map_append]
  exact pair_app (pair_mono e2 dv) dz
/-- a call whose defaults are known -/
theorem el_callDd {G : Dv.Ctx} {Ex' : XK} {tr : TA} {ds es : List PyData} {dvs : List V} {pre : List PyData → Prop} {F : List PyData → List PyData} (h : EA K T tr G (· = dats ds)) (hd : ∀ (W : Wd K T) (H : Hp), Paired (OD W H) dvs (dats es)) (hp : pre (ds ++ es)) :
    EL K T (tCall (spDL K T pre F) dvs Ex' tr) G (· = F (ds ++ es)) := fun W σ H s j Q q => h W σ H s j _ fun vs os H1 e1 j1 dv p => by
  subst p
  refine ⟨W, dats (ds ++ es), j1, ?_, ⟨_, rfl, hp⟩, fun p xs ds' H3 f j3 n3 h3 al ⟨ds2, e3, e4⟩ => q p xs ds' H3 (f.pre e1) j3 n3 h3 al (by rw [e4, dats_inj e3])⟩
  unfold dats
  rw [List.map_append]
  exact pair_app dv (hd W H1)
theorem e_callDd {G : Dv.Ctx} {Ex' : XK} {tr : TA} {ds es : List PyData} {dvs : List V} {pre : List PyData → Prop} {F : List PyData → PyData} (h : EA K T tr G (· = dats ds)) (hd : ∀ (W : Wd K T) (H : Hp), Paired (OD W H) dvs (dats es)) (hp : pre (ds ++ es)) :
    E K T (tCall (spD K T pre F) dvs Ex' tr) G (· = F (ds ++ es)) := fun W σ H s j Q q => h W σ H s j _ fun vs os H1 e1 j1 dv p => by
  subst p
  refine ⟨W, dats (ds ++ es), j1, ?_, ⟨_, rfl, hp⟩, fun v d H3 f j3 al ⟨ds2, e3, e4⟩ => q v d H3 (e1.trans f) j3 al (by rw [e4, dats_inj e3])⟩
  unfold dats
  rw [List.map_append]
  exact pair_app dv (hd W H1)
theorem e_callND {G : Dv.Ctx} {n m : Nat} {gV : List V → List V → List V} {Ex' : XK} {tr tk : TA} {ds es : List PyData} {pre : List PyData → Prop} {F : List PyData → PyData} (h : EA K T tr G (· = dats ds)) (h2 : EA K T tk G (· = dats es)) (hn : ds.length = n) (hm : es.length = m)
    (hg : ∀ vs zs, gV vs zs = vs ++ zs) (hp : pre (ds ++ es)) : E K T (tCallN n m (spD K T pre F) gV Ex' tr tk) G (· = F (ds ++ es)) := fun W σ H s j Q q => h W σ H s j _ fun vs os H1 e1 j1 dv p => h2 W σ H1 (s.mono e1) j1 _ fun zs os2 H2 e2 j2 dz p2 => by
  subst p p2
  have l1 := Paired.length dv
  have l2 := Paired.length dz
  refine ⟨by rw [l1, dats, List.length_map, hn], by rw [l2, dats, List.length_map, hm], W, dats (ds ++ es), j2, ?_, ⟨_, rfl, hp⟩, fun v d H3 f j3 al ⟨ds2, e3, e4⟩ => q v d H3 ((e1.trans e2).trans f) j3 al (by rw [e4, dats_inj e3])⟩
  rw [hg]
  unfold dats
  rw [List.map_append]
  exact pair_app (pair_mono e2 dv) dz
/-- a test of a list: whether it is empty -/
abbrev tTruQ (K : PySem.W.Frag) (ta : TE) : TT := fun σ H Q => ta σ H fun x H' => ∃ k, TruV K x H' k ∧ Q k H'
theorem t_testL {G : Dv.Ctx} {te : TE} {ds : List PyData} (h : E K T te G (· = .list ds)) : ET K T (tTruQ K te) G (· = !ds.isEmpty) := fun W σ H s j Q q => h W σ H s j _ fun v d H1 e1 j1 dv p => by
  subst p
  obtain ⟨a, xs, rfl, nx, ha, al⟩ := dv.lst_inv
  refine ⟨!ds.isEmpty, .inl ⟨xs, SqL.of ha, ?_⟩, q _ H1 e1 j1 rfl⟩
  cases al <;> rfl
theorem enum_rng {n : Nat} (g : PyData → PyData) : enumD ((rng n).map g) = (rng n).map fun d => .tuple [d, g d] := by
  apply List.ext_getElem?
  intro i
  unfold enumD rng
  rw [List.getElem?_map, List.getElem?_zipIdx, List.getElem?_map, List.getElem?_map, List.getElem?_map]
  by_cases h : i < n
  · rw [List.getElem?_map, List.getElem?_range h]
    simp
  · have e : (List.range n)[i]? = none := List.getElem?_eq_none (by rw [List.length_range]; omega)
    rw [List.getElem?_map, e]
    rfl
def lotsC (n : Nat) (ps ts : List PyData) (m sl : Nat) : List PyData := (lotsN n m).filter fun l => decide (cnt ps ts l ≤ sl)
def inAll (n : Nat) (ls : List PyData) : List PyData := (rng n).filter fun d => decide (haveN d ls = ls.length)
def inNone (n : Nat) (ls : List PyData) : List PyData := (rng n).filter fun d => decide (haveN d ls = 0)
def sureD (n : Nat) (ps ts : List PyData) (m sl : Nat) : PyData :=
  if (lotsC n ps ts m sl).isEmpty then .none else .tuple [.list (inAll n (lotsC n ps ts m sl)), .list (inNone n (lotsC n ps ts m sl))]
def F_sure : List PyData → PyData
  | [.tuple [.int n, .tuple ps], .tuple ts, .int m, .int sl] => sureD n.toNat ps ts m.toNat sl.toNat
  | _ => .none
abbrev sp_sure (K : PySem.W.Frag) (T : List (Addr × Str)) : Sp := spD K T (fun ds => ∃ (n : Nat) (ps ts : List PyData) (m sl : Nat), ds = [.tuple [.int n, .tuple ps], .tuple ts, .int m, .int sl] ∧ Pre n ps ts m sl) F_sure
def fstD : PyData → PyData
  | .tuple [a, _] => a
  | _ => .none
def sndI (k : Int) : PyData → Bool
  | .tuple [_, .int c] => decide (c = k)
  | _ => false
theorem pick_rng {n : Nat} (k : Nat) (g : PyData → Nat) : ((enumD ((rng n).map fun d => .int (g d))).filter (sndI k)).map fstD = (rng n).filter fun d => decide (g d = k) := by
  rw [enum_rng]
  generalize rng n = L
  induction L with
  | nil => rfl
  | cons x r ih =>
    rw [List.map_cons, List.filter_cons, List.filter_cons]
    have e : sndI k (.tuple [x, .int (g x)]) = decide (g x = k) := by
      show decide ((g x : Int) = (k : Int)) = _
      exact decide_eq_decide.mpr (by omega)
    rw [e]
    by_cases h : decide (g x = k) = true
    · rw [if_pos h, if_pos h, List.map_cons, ih]; rfl
    · rw [if_neg h, if_neg h, ih]
theorem sc_sure : FnScope ["plan", "told", "most", "slips", "lot", "_", "lots", "thing", "having", "count", "in_all", "in_none"] ["plan", "told", "most", "slips"] (defScope s_sure) := ⟨rfl, rfl, rfl, by decide +kernel, rfl, by decide +kernel, by decide +kernel⟩
theorem ok_sure {f f1 f2 : Addr} {fd fd1 fd2 : FuncData} {g : List Value → List Value → List Value} {gV : List V → List V → List V} (Fn : Fun K "sure" "sure" s_sure f fd) (X : Txt mg)
    (F1 : FnOk P w K mg base CX0 5 f1 fd1 ["plan", "told", "most", "slips"] (sp_could K T)) (k1 : PySem.W.keepIn K (.ref f1) = true) (b1 : KBn K fd1 ["plan", "told", "most", "slips"] 3 ["slips"] g gV) (hg : ∀ vs zs, gV vs zs = vs ++ zs) (m1 : mg "could" = some (.ref f1))
    (F2 : FnOk P w K mg base CX0 1 f2 fd2 ["thing", "lots"] (sp_how_many_have K T)) (k2 : PySem.W.keepIn K (.ref f2) = true) (b2 : Binds K fd2 ["thing", "lots"] []) (m2 : mg "how_many_have" = some (.ref f2)) :
    FnOk P w K mg base CX0 6 f fd ["plan", "told", "most", "slips"] (sp_sure K T) := by
  refine ok_defD Fn sc_sure (fun ds ⟨_, _, _, _, _, e, _⟩ => by rw [e]; rfl) fun cdv A outer s H E' hr => ?_
  have hr1 : Room 1 (A.deeper (envOfC "sure" (defScope s_sure) s.heap.objs.size f cdv)) := hr.mono (by decide)
  refine ⟨_, (pss_cons (ps_set (i := 6) sc_sure.nd rfl (by first | exact Or.inl rfl | exact Or.inr rfl) (pe_lc (g := gTup K 2 (gCons (gName 4) (gCons (gName 5) gNil))) (own := [("lot", 4), ("_", 5)]) rfl sc_sure.nd (pi_list (pe_callN F1 hr (by rfl) m1 k1 b1 pass0 (pa_cons (pv 0) (pa_cons (pv 1) (pa_cons (pv 2) pa_nil))) (pk_cons (pv 3) pk_nil))) (blkOk_by (N := ["plan", "told", "most", "slips", "lot", "_", "lots", "thing", "having", "count", "in_all", "in_none"]) (sc := defScope s_sure) (by decide +kernel)) (fun _ _ _ _ _ => (pg_tup rfl (pgs_cons (pg_name (i := 4) sc_sure.nd rfl (by first | exact Or.inl rfl | exact Or.inr rfl)) (pgs_cons (pg_name (i := 5) sc_sure.nd rfl (by first | exact Or.inl rfl | exact Or.inr rfl)) pgs_nil)))) (fun _ _ _ _ _ => pts_nil) (fun _ _ _ _ _ => (pv 4))))
  (pss_cons (ps_if (pt_not (pt_truth (pv 6) (by intro _; rfl))) (pss_one (ps_ret pe_non)) pss_nil)
  (pss_cons (ps_setLc (i := 8) (own := [("thing", 7)]) rfl sc_sure.nd rfl rfl (sw_true rfl rfl rfl (by decide +kernel)) (pi_range1 rfl X.range (pa_cons (pe_ix (r := rIxT K) ix_tup (pv 0) pe_int (fun _ _ => rfl)) pa_nil)) (blkOk_by (N := ["plan", "told", "most", "slips", "lot", "_", "lots", "thing", "having", "count", "in_all", "in_none"]) (sc := defScope s_sure) (by decide +kernel)) (fun _ _ _ _ _ => (pg_name (i := 7) sc_sure.nd rfl (by first | exact Or.inl rfl | exact Or.inr rfl))) (fun _ _ _ _ _ => pts_nil) (fun _ _ _ _ _ => (pe_call F2 hr1 (by rfl) m2 k2 b2 .nil pass0 (pa_cons (pv 7) (pa_cons (pv 6) pa_nil)))))
  (pss_cons (ps_setLc (i := 10) (g := gTup K 2 (gCons (gName 7) (gCons (gName 9) gNil))) (own := [("thing", 7), ("count", 9)]) rfl sc_sure.nd rfl rfl (sw_true rfl rfl rfl (by decide +kernel)) (pi_enum (by rfl) X.enumerate (pa_cons (pv 8) pa_nil)) (blkOk_by (N := ["plan", "told", "most", "slips", "lot", "_", "lots", "thing", "having", "count", "in_all", "in_none"]) (sc := defScope s_sure) (by decide +kernel)) (fun _ _ _ _ _ => (pg_tup rfl (pgs_cons (pg_name (i := 7) sc_sure.nd rfl (by first | exact Or.inl rfl | exact Or.inr rfl)) (pgs_cons (pg_name (i := 9) sc_sure.nd rfl (by first | exact Or.inl rfl | exact Or.inr rfl)) pgs_nil)))) (fun _ _ _ _ _ => (pts_one (pt_cmpR op_eq (pv 9) (pe_callB (r := rLenQ K) call_len_seq (by rfl) X.len bt_len (pa_cons (pv 6) pa_nil)) (nomark _)))) (fun _ _ _ _ _ => (pv 7)))
  (pss_cons (ps_setLc (i := 11) (g := gTup K 2 (gCons (gName 7) (gCons (gName 9) gNil))) (own := [("thing", 7), ("count", 9)]) rfl sc_sure.nd rfl rfl (sw_true rfl rfl rfl (by decide +kernel)) (pi_enum (by rfl) X.enumerate (pa_cons (pv 8) pa_nil)) (blkOk_by (N := ["plan", "told", "most", "slips", "lot", "_", "lots", "thing", "having", "count", "in_all", "in_none"]) (sc := defScope s_sure) (by decide +kernel)) (fun _ _ _ _ _ => (pg_tup rfl (pgs_cons (pg_name (i := 7) sc_sure.nd rfl (by first | exact Or.inl rfl | exact Or.inr rfl)) (pgs_cons (pg_name (i := 9) sc_sure.nd rfl (by first | exact Or.inl rfl | exact Or.inr rfl)) pgs_nil)))) (fun _ _ _ _ _ => (pts_one (pt_cmpR op_eq (pv 9) pe_int (nomark _)))) (fun _ _ _ _ _ => (pv 7)))
  (pss_one (ps_ret (pe_tup (pa_cons (pv 10) (pa_cons (pv 11) pa_nil)))))))))), ?_⟩
  rintro ds ⟨n, ps, ts, m, sl, rfl, h⟩
  have hL := h.len
  have hC : (lotsC n ps ts m sl).length < 1000 := Nat.lt_of_le_of_lt (List.length_filter_le ..) hL
  have hF : FlatLs (lotsC n ps ts m sl) := ⟨by omega, fun l hl => h.lot (List.mem_filter.mp hl).1⟩
  have hn10 := h.g.n10
  have ec : (couldL n ps ts m sl).map fstD = lotsC n ps ts m sl := by
    unfold couldL
    rw [List.map_map]
    show List.map (fun l => l) _ = _
    rw [List.map_id']
    rfl
  have hcl : (couldL n ps ts m sl).length = (lotsC n ps ts m sl).length := by rw [← ec, List.length_map]
  refine s_seq (s_asg (d := .list (lotsC n ps ts m sl)) (E.is (EL.is (el_lcM (vs := [4, 5]) fstD (i_list (EL.is (el_callND (F := F_could) (ds := [.tuple [.int n, .tuple ps], .tuple ts, .int m]) (es := [.int sl]) (a_cons e_var (a_cons e_var (a_cons e_var a_nil))) (a_cons e_var a_nil) rfl rfl hg ⟨n, ps, ts, m, sl, rfl, h⟩))) (fun d hd => ?_) (by show (couldL n ps ts m sl).length ≤ _; omega))) (congrArg PyData.list ec)) ?_)
  · obtain ⟨l, hl, rfl⟩ := List.mem_map.mp (show d ∈ couldL n ps ts m sl from hd)
    exact ⟨_, tg_pair (by decide) (by decide), e_var⟩
  refine s_seq (s_if (t_not (t_testL e_var)) (fun he => s_ret e_non ?_) (fun he => s_next ?_))
  · have he : (lotsC n ps ts m sl).isEmpty = true := by simpa using he
    show PyData.none = sureD n ps ts m sl
    unfold sureD
    rw [if_pos he]
  have he : (lotsC n ps ts m sl).isEmpty = false := by simpa using he
  refine s_seq (s_asg (d := .list ((rng n).map fun d => .int (haveN d (lotsC n ps ts m sl)))) (EL.is (el_lcM (vs := [7]) (fun d => .int (haveN d (lotsC n ps ts m sl))) (i_rngN (n := n) (a_cons (e_ixT (i := 0) e_var e_int rfl) a_nil) (by omega)) (fun d hd => ⟨_, tg_name (by decide), ?_⟩) (by rw [rng_length]; omega))) ?_)
  · obtain ⟨i, hi, rfl⟩ := mem_rng hd
    exact E.is (e_callD (F := F_how_many_have) (ds := [.int i, .list (lotsC n ps ts m sl)]) (a_cons e_var (a_cons e_var a_nil)) ⟨i, _, rfl, hF⟩) rfl
  refine s_seq (s_asg (d := .list (inAll n (lotsC n ps ts m sl))) (E.is (EL.is (el_lcD (vs := [7, 9]) (sndI (lotsC n ps ts m sl).length) fstD (i_enumD (a_cons e_var a_nil)) (fun d hd => ?_) (by rw [enumD_length, List.length_map, rng_length]; omega))) (congrArg PyData.list (pick_rng _ _))) ?_)
  · rw [enum_rng] at hd
    obtain ⟨l, hl, rfl⟩ := List.mem_map.mp hd
    exact ⟨_, tg_pair (by decide) (by decide), ET.is (t_B (e_eq (d := .int (haveN l (lotsC n ps ts m sl))) (e := .int (lotsC n ps ts m sl).length) e_var (e_len (ds := lotsC n ps ts m sl) (a_cons e_var a_nil) (.inl rfl)) rfl)) rfl, fun _ => e_var⟩
  refine s_seq (s_asg (d := .list (inNone n (lotsC n ps ts m sl))) (E.is (EL.is (el_lcD (vs := [7, 9]) (sndI ((0 : Nat) : Int)) fstD (i_enumD (a_cons e_var a_nil)) (fun d hd => ?_) (by rw [enumD_length, List.length_map, rng_length]; omega))) (congrArg PyData.list (pick_rng 0 _))) ?_)
  · rw [enum_rng] at hd
    obtain ⟨l, hl, rfl⟩ := List.mem_map.mp hd
    exact ⟨_, tg_pair (by decide) (by decide), ET.is (t_B (e_eq (d := .int (haveN l (lotsC n ps ts m sl))) (e := .int 0) e_var e_int rfl)) rfl, fun _ => e_var⟩
  refine s_ret (e_tup (ds := [.list (inAll n (lotsC n ps ts m sl)), .list (inNone n (lotsC n ps ts m sl))]) (a_cons e_var (a_cons e_var a_nil)) (by show 2 ≤ 100000; decide)) ?_
  show _ = sureD n ps ts m sl
  unfold sureD
  rw [if_neg (by rw [he]; decide)]
end
end K03

namespace K03
open PySem PySem.Spec L2 Dv DvC
open PyProof.Rows hiding St
section
variable {P : Program} {w : World} {K : PySem.W.Frag} {mg : Str → Option Value} {base : Heap} {T : List (Addr × Str)}
/-! the drawing row -/
theorem sql_upd {H : Hp} {sc a : Addr} {ns : List Int} {v : V} {r : List V} {o : HO} (h : SqL K H sc (ns.map V.int)) (ha : H a = some (.lst (.ref v0 :: r))) : SqL K (upd H a o) sc (ns.map V.int) := by
  rcases h with (h | ⟨o', h⟩) | h
  · have n : sc ≠ a := fun z => by
      rw [z, ha] at h
      cases ns <;> cases h
    exact .inl (.inl (by rw [upd_ne n]; exact h))
  · have n : sc ≠ a := fun z => by
      rw [z, ha] at h
      cases h
    exact .inl (.inr ⟨o', by rw [upd_ne n]; exact h⟩)
  · exact .inr h
theorem rd_row {σ : L2.St} {H : Hp} {a : Addr} {xs : List V} {k : Int} {v : V} {Q : VK} (h0 : σ[0]? = some (some (.ref a))) (ha : H a = some (.lst xs)) (hk : atI xs k = some v) (q : Q v H) : tOp (rIxL K) (tVar 0) (tC (.int k)) σ H Q := ⟨.ref a, h0, a, xs, k, v, rfl, rfl, SqL.of ha, hk, q⟩
theorem sc__law_taken : FnScope ["_law_row_here", "_law_many", "_law_found", "_law_cell"] ["_law_row_here", "_law_many"] (defScope s__law_taken) := ⟨rfl, rfl, rfl, by decide +kernel, rfl, by decide +kernel, by decide +kernel⟩
abbrev sp_taken (K : PySem.W.Frag) (T : List (Addr × Str)) : Sp := spA K T (fun os => ∃ n : Int, os = [.row, .dat (.int n)] ∧ 0 < n ∧ n ≤ 1000) (fun os d => ∀ n : Int, os = [.row, .dat (.int n)] → ∃ k : Nat, (k : Int) < n ∧ d = .int k)
theorem tk_of {i n : Int} (h : 0 < n) : ∃ k : Nat, (k : Int) < n ∧ PyData.int (i % n) = .int k := by
  have h1 := Int.emod_nonneg i (show n ≠ 0 by omega)
  have h2 := Int.emod_lt_of_pos i h
  exact ⟨(i % n).toNat, by omega, by congr 1; omega⟩
theorem ok_taken {f : Addr} {fd : FuncData} (Fn : Fun K "_law_taken" "_law_taken" s__law_taken f fd) (X : Txt mg) : FnOk P w K mg base CX0 1 f fd ["_law_row_here", "_law_many"] (sp_taken K T) := by
  refine ok_def Fn sc__law_taken (fun os ⟨_, e, _⟩ => by rw [e]; rfl) fun cdv A outer s H E' hr => ?_
  refine ⟨_, (pss_cons (ps_if (pt_cmpR op_gt (pe_ix (r := rIxL K) ix_list (pv 0) pe_int (fun _ _ => rfl)) pe_int (nomark _)) (pss_cons (ps_set (i := 2) sc__law_taken.nd rfl (by first | exact Or.inl rfl | exact Or.inr rfl) (pe_op op_mod (pe_ix (r := rIxL K) ix_list (pv 0) pe_int (fun _ _ => rfl)) (pv 1)))
  (pss_cons (ps_asg (pe_op op_fdiv (pe_ix (r := rIxL K) ix_list (pv 0) pe_int (fun _ _ => rfl)) (pv 1)) (pg_sub (pv 0) pe_int set_list))
  (pss_one (ps_ret (pv 2))))) pss_nil)
  (pss_cons (ps_if (pt_cmpR op_lt (pe_ix (r := rIxL K) ix_list (pv 0) pe_int (fun _ _ => rfl)) (pe_callB (r := rLenQ K) call_len_seq (by rfl) X.len bt_len (pa_cons (pe_ix (r := rIxL K) ix_list (pv 0) pe_int (fun _ _ => rfl)) pa_nil)) (nomark _)) (pss_cons (ps_set (i := 3) sc__law_taken.nd rfl (by first | exact Or.inl rfl | exact Or.inr rfl) (pe_ix (r := rIxL K) ix_list (pe_ix (r := rIxL K) ix_list (pv 0) pe_int (fun _ _ => rfl)) (pe_ix (r := rIxL K) ix_list (pv 0) pe_int (fun _ _ => rfl)) (fun _ _ => rfl)))
  (pss_cons (ps_asg (pe_op op_add (pe_ix (r := rIxL K) ix_list (pv 0) pe_int (fun _ _ => rfl)) pe_int) (pg_sub (pv 0) pe_int set_list))
  (pss_cons (ps_if (pt_cmpR op_ge (pv 3) (pe_op op_pow pe_int pe_int) (nomark _)) (pss_one (ps_asg (pe_op op_fdiv (pv 3) (pv 1)) (pg_sub (pv 0) pe_int set_list))) pss_nil)
  (pss_one (ps_ret (pe_op op_mod (pv 3) (pv 1))))))) pss_nil)
  (pss_cons (ps_asg (pe_op op_mod (pe_op op_add (pe_op op_mul (pe_ix (r := rIxL K) ix_list (pv 0) pe_int (fun _ _ => rfl)) pe_int) pe_int) pe_int) (pg_sub (pv 0) pe_int set_list))
  (pss_one (ps_ret (pe_op op_mod (pe_op op_fdiv (pe_ix (r := rIxL K) ix_list (pv 0) pe_int (fun _ _ => rfl)) pe_int) (pv 1))))))), ?_⟩
  rintro os ⟨n, rfl, hn0, hn⟩ W D' σ H s j ok
  obtain ⟨v0, h0, o0⟩ := s.at_ 0 _ rfl
  obtain ⟨v1, h1, o1⟩ := s.at_ 1 _ rfl
  cases o0 with
  | row hr0 =>
  cases o1 with
  | dat o1 =>
  cases o1
  rename_i a
  obtain ⟨sc, ns, i, c, m, ha, hsc, hi, hm0, hm1⟩ := W.row j hr0
  have hl : σ.length = 4 := s.len.symm
  have xa := W.rx hr0
  have fin : ∀ (H' : Hp) (z : Int), Ex W H H' → W.J H' → D'.rt (.int (z % n)) H' := fun H' z e j' => by
    refine ok.rt _ (.int (z % n)) H' e j' (.int _) fun n' e' => ?_
    have : n' = n := by injection e' with _ e'; injection e' with e' _; injection e' with e'; injection e' with e'; exact e'.symm
    subst this
    exact tk_of hn0
  refine rd_row (K := K) h0 ha rfl ⟨c, 0, rfl, rfl, _, rfl, ite2 (fun hc => ?_) (fun hc => ?_)⟩
  · refine rd_row (K := K) h0 ha rfl ⟨.int n, h1, c, n, rfl, rfl, hn0, ?_⟩
    have h0' : (σ.set 2 (some (.int (c % n))))[0]? = some (some (.ref a)) := by rw [List.getElem?_set_ne (by decide)]; exact h0
    have h1' : (σ.set 2 (some (.int (c % n))))[1]? = some (some (.int n)) := by rw [List.getElem?_set_ne (by decide)]; exact h1
    refine rd_row (K := K) h0' ha rfl ⟨.int n, h1', c, n, rfl, rfl, ⟨hn0, by omega⟩, .ref a, h0', a, _, 2, 2, rfl, rfl, ha, rfl, ?_⟩
    refine ⟨.int (c % n), by rw [List.getElem?_set_self (by omega)], fin _ c (Ex.out (.refl H) xa) (W.jw j hr0 ha hi hm0 hm1)⟩
  · refine rd_row (K := K) h0 ha rfl ?_
    refine rd_row (K := K) h0 ha rfl ⟨sc, ns.map V.int, rfl, .inl hsc, i, _, rfl, rfl, _, rfl, ite2 (fun hc2 => ?_) (fun hc2 => ?_)⟩
    · have hlt : i < ((ns.map V.int).length : Int) := of_decide_eq_true hc2
      rw [List.length_map] at hlt
      obtain ⟨cell, hat⟩ : ∃ cell, atI (ns.map V.int) i = some (.int cell) := by
        obtain ⟨k, rfl⟩ : ∃ k : Nat, i = k := ⟨i.toNat, by omega⟩
        exact ⟨ns[k]'(by omega), atI_nat (by rw [List.getElem?_map, List.getElem?_eq_getElem (by omega)]; rfl)⟩
      refine rd_row (K := K) h0 ha rfl ?_
      refine rd_row (K := K) h0 ha rfl ⟨sc, _, i, _, rfl, rfl, hsc, hat, ?_⟩
      have h0' : (σ.set 3 (some (.int cell)))[0]? = some (some (.ref a)) := by rw [List.getElem?_set_ne (by decide)]; exact h0
      have h1' : (σ.set 3 (some (.int cell)))[1]? = some (some (.int n)) := by rw [List.getElem?_set_ne (by decide)]; exact h1
      have h3' : (σ.set 3 (some (.int cell)))[3]? = some (some (.int cell)) := by rw [List.getElem?_set_self (by omega)]
      refine rd_row (K := K) h0' ha rfl ⟨i, 1, rfl, rfl, .ref a, h0', a, _, 1, 1, rfl, rfl, ha, rfl, ?_⟩
      refine ⟨.int cell, h3', 10, 18, rfl, rfl, ⟨by decide, by decide, by decide⟩, cell, _, rfl, rfl, _, rfl, ite2 (fun hc3 => ?_) (fun hc3 => ?_)⟩
      · refine ⟨.int cell, h3', .int n, h1', cell, n, rfl, rfl, ⟨hn0, by omega⟩, .ref a, h0', a, _, 2, 2, rfl, rfl, upd_same, rfl, ?_⟩
        refine ⟨.int cell, h3', .int n, h1', cell, n, rfl, rfl, hn0, fin _ cell (Ex.out (Ex.out (.refl H) xa) xa) ?_⟩
        rw [upd_upd]
        exact W.jw j hr0 ha (by omega) hm0 hm1
      · refine ⟨.int cell, h3', .int n, h1', cell, n, rfl, rfl, hn0, fin _ cell (Ex.out (.refl H) xa) ?_⟩
        exact W.jw j hr0 ha (by omega) hm0 hm1
    · refine rd_row (K := K) h0 ha rfl ⟨m, 48271, rfl, rfl, .inl ⟨by omega, by omega⟩, _, 12345, rfl, rfl, _, 2147483647, rfl, rfl, (show (0 : Int) < 2147483647 by decide), .ref a, h0, a, _, 3, 3, rfl, rfl, ha, rfl, ?_⟩
      refine rd_row (K := K) h0 upd_same rfl ⟨_, 1009, rfl, rfl, ⟨by decide, by decide⟩, .int n, h1, _, n, rfl, rfl, hn0, fin _ _ (Ex.out (.refl H) xa) ?_⟩
      exact W.jw j hr0 ha hi (Int.emod_nonneg _ (by decide)) (Int.emod_lt_of_pos _ (by decide))
theorem sc__law_row : FnScope ["_law_script", "_law_mixed", "_law_cell"] ["_law_script"] (defScope s__law_row) := ⟨rfl, rfl, rfl, by decide +kernel, rfl, by decide +kernel, by decide +kernel⟩
/-- the row's making: before there is a world -/
def sp_row (K : PySem.W.Frag) : Sp := fun vs H Q _ => ∃ (a : Addr) (ns : List Int), vs = [.ref a] ∧ SqL K H a (ns.map V.int) ∧ ∀ (p : Addr) (m : Int), H p = none → 0 ≤ m → m < 2147483647 → Q (.ref p) (upd H p (.lst [.ref a, .int 0, .int 0, .int m]))
theorem ok_row {f : Addr} {fd : FuncData} (Fn : Fun K "_law_row" "_law_row" s__law_row f fd) : FnOk P w K mg base CX0 1 f fd ["_law_script"] (sp_row K) := by
  refine Fn.ok sc__law_row (fun vs H Q E ⟨a, ns, e, _⟩ => by rw [e]; rfl) fun cdv A outer s H vs Q E hr ⟨a, ns, e, hsc, q⟩ => ?_
  subst e
  refine ⟨_, (pss_cons (ps_set (i := 1) sc__law_row.nd rfl (by first | exact Or.inl rfl | exact Or.inr rfl) pe_int)
  (pss_cons (ps_for PassesOwn.never rfl (pi_list (pv 0)) (pg_name (i := 2) sc__law_row.nd rfl (by first | exact Or.inl rfl | exact Or.inr rfl)) (pss_one (ps_set (i := 1) sc__law_row.nd rfl (by first | exact Or.inl rfl | exact Or.inr rfl) (pe_op op_mod (pe_op op_add (pe_op op_add (pe_op op_mul (pv 1) pe_int) (pv 2)) pe_int) pe_int))))
  (pss_one (ps_ret (pe_lst (pa_cons (pv 0) (pa_cons pe_int (pa_cons pe_int (pa_cons (pv 1) pa_nil))))))))), ?_⟩
  refine ⟨.ref a, rfl, a, rfl, ⟨_, hsc⟩, ?_⟩
  refine for_it (walk_list (K := K) (a := a) (xs := ns.map V.int)) (fun i σ' H' => H' = H ∧ ∃ m y, σ' = [some (.ref a), some (.int m), y] ∧ 0 ≤ m ∧ m < 2147483647) ⟨rfl, 7, none, rfl, by decide, by decide⟩ (fun i σ' H' _ ⟨e, _⟩ => by rw [e]; exact hsc) (fun i x σ' H' H2 hin ⟨e, m, y, e2, h0, h1⟩ yv => ?_) fun σ' H' ⟨e, m, y, e2, h0, h1⟩ => ?_
  · subst e e2
    obtain ⟨rfl, hx⟩ := yv
    obtain ⟨k, rfl⟩ : ∃ k, x = .int k := by
      rw [List.getElem?_map] at hx
      cases hk : ns[i]? with
      | none => rw [hk] at hx; cases hx
      | some k => rw [hk] at hx; cases hx; exact ⟨k, rfl⟩
    refine ⟨.int m, rfl, m, 48271, rfl, rfl, .inl ⟨by omega, by omega⟩, .int k, rfl, _, k, rfl, rfl, _, 11, rfl, rfl, _, 2147483647, rfl, rfl, (show (0 : Int) < 2147483647 by decide), rfl, _, some (.int k), rfl, Int.emod_nonneg _ (by decide), Int.emod_lt_of_pos _ (by decide)⟩
  · subst e e2
    exact ⟨.ref a, rfl, .int m, rfl, (by show 4 ≤ sizeLine; decide), fun p hp => q p m hp h0 h1⟩
/-! more rules -/
theorem rd_of {r : R2} {P Q R : PyData → Prop} (h : ∀ (G : Dv.Ctx) (ta tb : TE), E K T ta G P → E K T tb G Q → E K T (tOp r ta tb) G R) : RD K T r P Q R := fun W H x y d e jh dx dy px py Q' q => by
  have e1 : E K T (fun σ H Q => Q x H) [] P → True := fun _ => trivial
  have s : Sl W H [some x, some y] [some (.dat d), some (.dat e)] := ⟨rfl, fun i o hi => by
    match i, hi with
    | 0, hi => cases hi; exact ⟨x, rfl, .dat dx⟩
    | 1, hi => cases hi; exact ⟨y, rfl, .dat dy⟩⟩
  have z := h [some (.dat d), some (.dat e)] (tVar 0) (tVar 1) ((e_var (i := 0)).imp fun _ w => by rw [w]; exact px) ((e_var (i := 1)).imp fun _ w => by rw [w]; exact py) W [some x, some y] H s jh Q' q
  obtain ⟨v, hv, u, hu, z⟩ := z
  cases hv
  cases hu
  exact z
theorem e_opP {G : Dv.Ctx} {ta tb : TE} {r : R2} {P Q R : PyData → Prop} (ha : E K T ta G P) (hb : E K T tb G Q) (hr : ∀ d e, P d → Q e → RD K T r (· = d) (· = e) R) : E K T (tOp r ta tb) G R := e_op ha hb fun W H x y d e jh dx dy px py Q' q => hr d e px py W H x y d e jh dx dy rfl rfl Q' q
/-- an operation, its rule told for known data -/
theorem e_opQ {G : Dv.Ctx} {ta tb : TE} {r : R2} {P Q R : PyData → Prop} (ha : E K T ta G P) (hb : E K T tb G Q) (hr : ∀ d e, P d → Q e → ∀ (G : Dv.Ctx) (ta tb : TE), E K T ta G (· = d) → E K T tb G (· = e) → E K T (tOp r ta tb) G R) : E K T (tOp r ta tb) G R :=
  e_opP ha hb fun d e p q => rd_of (hr d e p q)
theorem e_tupP {G : Dv.Ctx} {tr : TA} {R : List Ob → Prop} {P : PyData → Prop} (h : EA K T tr G R) (hk : ∀ os, R os → ∃ ds, os = dats ds ∧ ds.length ≤ 100000 ∧ P (.tuple ds)) : E K T (tTup tr) G P := fun W σ H s j Q q => h W σ H s j _ fun vs os H1 e1 j1 dv p => by
  obtain ⟨ds, rfl, hl, hp⟩ := hk os p
  have a := all_of dv
  exact ⟨Nat.le_trans (by rw [a.length]; exact hl) (by decide), fun x hx => q _ _ _ (e1.trans (.new hx)) (j_new j1 hx) (.tup (new_ne j1 hx) upd_same (a.mono (.new hx))) hp⟩
theorem e_tup1 {G : Dv.Ctx} {te : TE} {P : PyData → Prop} (h : E K T te G P) : E K T (tTup (tCons te tNil)) G (fun d => ∃ x, d = .tuple [x] ∧ P x) := e_tupP (a_consP h a_nil) fun os ⟨d, r, e, p, z⟩ => ⟨[d], by rw [e, z]; rfl, by show 1 ≤ 100000; decide, d, rfl, p⟩
theorem e_tupleLP {G : Dv.Ctx} {te : TE} {K' : PySem.W.Frag} {P : List PyData → Prop} (h : EL K T te G P) : E K T (tCB (rTupQ K') (tCons te tNil)) G (fun d => ∃ ds, d = .tuple ds ∧ P ds) := fun W σ H s j Q q => h W σ H s j _ fun p xs ds H1 f j1 n1 h1 al pd =>
  ⟨p, xs, rfl, .inl ⟨SqL.of h1, fun l hl => q (.ref l) (.tuple ds) _ (f.ex.trans (.new hl)) (j_new j1 hl) (.tup (new_ne j1 hl) upd_same (al.mono (.new hl))) ⟨ds, rfl, pd⟩⟩⟩
def tKI (n : Nat) : TA := fun _ H Q => Q [.int n] H
theorem a_ki {G : Dv.Ctx} {n : Nat} : EA K T (tKI n) G (· = [.dat (.int n)]) := fun W σ H s j Q q => q _ _ H (.refl H) j (.cons (.dat (.int _)) .nil) rfl
/-- a for over range(..), the count not told -/
theorem s_forR {G : Dv.Ctx} {F : EndG} {g : TG} {t : TS} {tr : TA} {B : Nat → Prop} (h : EA K T tr G (fun os => ∃ n : Nat, B n ∧ os = [.dat (.int n)])) (k : ∀ n, B n → S K T (tFor (iRng1 (tKI n)) g t) G F) : S K T (tFor (iRng1 tr) g t) G F := fun W D' σ H s j ok => h W σ H s j _ fun vs os H1 e1 j1 dv ⟨n, hn, e⟩ => by
  subst e
  have a := all_of (ds := [.int n]) dv
  cases a with
  | cons a b =>
    cases b
    cases a.int_inv
    exact k n hn W D' σ H1 (s.mono e1) j1 (ok.mono e1)
theorem e_taken {G : Dv.Ctx} {Ex' : XK} {tr : TA} {n : Int} (h : EA K T tr G (· = [.row, .dat (.int n)])) (h0 : 0 < n) (h1 : n ≤ 1000) : E K T (tCall (sp_taken K T) [] Ex' tr) G (fun d => ∃ k : Nat, (k : Int) < n ∧ d = .int k) := e_call h ⟨n, rfl, h0, h1⟩ fun d p => p n rfl
/-- a slice [:k] of a tuple -/
theorem e_slT {G : Dv.Ctx} {te : TE} {k : Nat} {P : List PyData → Prop} (h : E K T te G (fun d => ∃ ds, d = .tuple ds ∧ P ds)) (hk : ∀ ds, P ds → P (ds.take k)) : E K T (tSl (rSlA K) te tNoPart (tPart (tC (.int (k : Nat))))) G (fun d => ∃ ds, d = .tuple ds ∧ P ds) := fun W σ H s j Q q => h W σ H s j _ fun v d H1 e1 j1 dv ⟨ds, e, p⟩ => by
  subst e
  obtain ⟨a, xs, rfl, nx, ha, al⟩ := dv.tup_inv
  have hs : HT.sIx xs.length xs.length (some (k : Int)) = min k xs.length := HT.sIx_nat _ _ _
  refine ⟨k, rfl, a, xs, rfl, SqT.of ha, fun _ => q _ _ H1 e1 j1 dv ⟨ds, rfl, p⟩, fun _ x hx => ?_⟩
  have ec : cutV xs none (some (k : Int)) = xs.take k := by
    unfold cutV
    rw [hs, HT.sIx_none, List.drop_zero, Nat.sub_zero]
    rcases Nat.le_total k xs.length with z | z
    · rw [Nat.min_eq_left z]
    · rw [Nat.min_eq_right z, List.take_of_length_le (Nat.le_refl _), List.take_of_length_le z]
  rw [ec]
  exact q _ _ _ (e1.trans (.new hx)) (j_new j1 hx) (.tup (new_ne j1 hx) upd_same ((al.take k).mono (.new hx))) ⟨_, rfl, hk ds p⟩
/-! shaped data -/
def Sh (k : Nat) (d : PyData) : Prop := d.canLay0 = true ∧ d.depth ≤ k
theorem Sh.shaped {k : Nat} {d : PyData} (h : Sh k d) (hk : k ≤ 64) : SeqAt.shaped d = true := by
  unfold SeqAt.shaped
  rw [h.1, decide_eq_true (Nat.le_trans h.2 hk)]
  rfl
theorem Sh.refl {k : Nat} {d : PyData} (h : Sh k d) : PyData.eqv d d = true := SeqAt.eqv_refl d h.1
theorem Sh.mono {k j : Nat} {d : PyData} (h : Sh k d) (hk : k ≤ j) : Sh j d := ⟨h.1, Nat.le_trans h.2 hk⟩
theorem sh_int {i : Int} {k : Nat} : Sh k (.int i) := ⟨rfl, by show 0 ≤ k; omega⟩
theorem sh_non {k : Nat} : Sh k .none := ⟨rfl, by show 0 ≤ k; omega⟩
theorem sh_bool {b : Bool} {k : Nat} : Sh k (.bool b) := ⟨rfl, by show 0 ≤ k; omega⟩
theorem sh_all {k : Nat} : ∀ {xs : List PyData}, (∀ x ∈ xs, Sh k x) → PyData.canLayAll0 xs = true ∧ PyData.depthAll xs ≤ k
  | [], _ => ⟨rfl, by show 0 ≤ k; omega⟩
  | x :: r, h => by
    obtain ⟨a, b⟩ := sh_all (xs := r) fun y hy => h y (List.mem_cons_of_mem _ hy)
    obtain ⟨c, d⟩ := h x (List.mem_cons_self ..)
    exact ⟨by show (x.canLay0 && PyData.canLayAll0 r) = true; rw [a, c]; rfl, by show max x.depth (PyData.depthAll r) ≤ k; omega⟩
theorem sh_tup {k : Nat} {xs : List PyData} (h : ∀ x ∈ xs, Sh k x) : Sh (k + 1) (.tuple xs) := ⟨(sh_all h).1, by show PyData.depthAll xs + 1 ≤ k + 1; have := (sh_all h).2; omega⟩
theorem sh_lst {k : Nat} {xs : List PyData} (h : ∀ x ∈ xs, Sh k x) : Sh (k + 1) (.list xs) := ⟨(sh_all h).1, by show PyData.depthAll xs + 1 ≤ k + 1; have := (sh_all h).2; omega⟩
def IntsD (xs : List PyData) : Prop := ∀ d ∈ xs, IntD d
theorem IntsD.sh {xs : List PyData} (h : IntsD xs) : ∀ d ∈ xs, Sh 0 d := fun d hd => by
  obtain ⟨i, rfl⟩ := h d hd
  exact sh_int
theorem IntsD.flat {xs : List PyData} (h : IntsD xs) : xs.all flatD = true := List.all_eq_true.mpr fun d hd => by
  obtain ⟨i, rfl⟩ := h d hd
  rfl
theorem intsD_map (js : List Nat) : IntsD (js.map fun (j : Nat) => PyData.int j) := fun d hd => by
  obtain ⟨j, _, rfl⟩ := List.mem_map.mp hd
  exact ⟨j, rfl⟩
theorem eqv_nilT {xs : List PyData} : PyData.eqv (.tuple xs) (.tuple []) = xs.isEmpty := by cases xs <;> rfl
theorem eqv_nilL {xs : List PyData} : PyData.eqv (.list xs) (.list []) = xs.isEmpty := by cases xs <;> rfl
/-! drawn lots and plans -/
def GoodJ (n : Nat) (js : List Nat) : Prop := js.Pairwise (· < ·) ∧ ∀ j ∈ js, j < n
theorem lotGo_of {n : Nat} : ∀ {js : List Nat} {l : Nat}, GoodJ n js → (∀ j ∈ js, l ≤ j) → lotGo n l (js.map fun (j : Nat) => PyData.int j) = true
  | [], l, _, _ => rfl
  | j :: r, l, ⟨h1, h2⟩, h3 => by
    have a := h3 j (List.mem_cons_self ..)
    have b := h2 j (List.mem_cons_self ..)
    have hp := List.pairwise_cons.mp h1
    have ih := lotGo_of (n := n) (js := r) (l := j + 1) ⟨hp.2, fun x hx => h2 x (List.mem_cons_of_mem _ hx)⟩ fun x hx => hp.1 x hx
    show ((decide ((l : Int) ≤ j) && decide ((j : Int) ≤ n - 1)) && lotGo n ((j : Int) + 1) (r.map fun (j : Nat) => PyData.int j)) = true
    rw [decide_eq_true (show (l : Int) ≤ j by omega), decide_eq_true (show (j : Int) ≤ n - 1 by omega)]
    exact ih
theorem GoodJ.len {n : Nat} {js : List Nat} (h : GoodJ n js) : js.length ≤ n := by
  have z := (lotGo_ok (lotGo_of (l := 0) h fun _ _ => Nat.zero_le _)).2.1
  rw [List.length_map] at z
  omega
theorem sc__law_lot : FnScope ["_law_row_here", "_law_things", "_law_thing"] ["_law_row_here", "_law_things"] (defScope s__law_lot) := ⟨rfl, rfl, rfl, by decide +kernel, rfl, by decide +kernel, by decide +kernel⟩
abbrev sp_lot (K : PySem.W.Frag) (T : List (Addr × Str)) : Sp := spA K T (fun os => ∃ n : Nat, os = [.row, .dat (.int n)] ∧ n ≤ 1000) (fun os d => ∀ n : Nat, os = [.row, .dat (.int n)] → ∃ js, d = lotD js ∧ GoodJ n js)
theorem row_int_inj {i j : Int} (h : [Ob.row, Ob.dat (.int i)] = [.row, .dat (.int j)]) : i = j := by
  injection h with _ h
  injection h with h _
  injection h with h
  injection h
theorem ok_lot {f f1 : Addr} {fd fd1 : FuncData} (Fn : Fun K "_law_lot" "_law_lot" s__law_lot f fd) (X : Txt mg) (F1 : FnOk P w K mg base CX0 1 f1 fd1 ["_law_row_here", "_law_many"] (sp_taken K T)) (k1 : PySem.W.keepIn K (.ref f1) = true) (b1 : Binds K fd1 ["_law_row_here", "_law_many"] []) (m1 : mg "_law_taken" = some (.ref f1)) :
    FnOk P w K mg base CX0 2 f fd ["_law_row_here", "_law_things"] (sp_lot K T) := by
  refine ok_def Fn sc__law_lot (fun os ⟨_, e, _⟩ => by rw [e]; rfl) fun cdv A outer s H E' hr => ?_
  refine ⟨_, (pss_one (ps_ret (pe_callTy (r := rTupQ K) call_tuple_of (by rfl) X.tuple bt_tuple (pa_cons (pe_lc (own := [("_law_thing", 2)]) rfl sc__law_lot.nd (pi_range1 rfl X.range (pa_cons (pv 1) pa_nil)) (blkOk_by (N := ["_law_row_here", "_law_things", "_law_thing"]) (sc := defScope s__law_lot) (by decide +kernel)) (fun _ _ _ _ _ => (pg_name (i := 2) sc__law_lot.nd rfl (by first | exact Or.inl rfl | exact Or.inr rfl))) (fun _ _ _ _ _ => (pts_one (pt_cmpR op_lt (pe_call F1 hr (by rfl) m1 k1 b1 .nil pass0 (pa_cons (pv 0) (pa_cons pe_int pa_nil))) pe_int (nomark _)))) (fun _ _ _ _ _ => (pv 2))) pa_nil)))), ?_⟩
  rintro os ⟨n, rfl, hn⟩
  have comp := el_lc (K := K) (T := T) (G := [some .row, some (.dat (.int n)), none]) (vs := [2]) (wi := iRng1 (tCons (tVar 1) tNil)) (g := gName 2) (tt := tTest (tOp (rI0 fun i j => .bl (decide (i < j))) (tCall (sp_taken K T) [] E0 (tCons (tVar 0) (tCons (tC (.int 5)) tNil))) (tC (.int 2)))) (te := tVar 2)
    (fun i acc => ∃ js : List Nat, acc = js.map (fun (j : Nat) => PyData.int j) ∧ js.Pairwise (· < ·) ∧ ∀ j ∈ js, j < i) (i_rngN (n := n) (a_cons e_var a_nil) (by omega)) ⟨[], rfl, .nil, fun j hj => by cases hj⟩ (fun i d acc hi hd ⟨js, ea, h1, h2⟩ => ?_) (by rw [rng_length]; omega)
  · rw [rng_length] at comp
    refine s_retP (e_tupleLP comp) fun d ⟨ds, e1, js, e2, h1, h2⟩ n' en => ?_
    obtain rfl : n = n' := by have := row_int_inj en; omega
    exact ⟨js, by rw [e1, e2]; rfl, h1, h2⟩
  · rw [rng_length] at hi
    rw [rng_get hi] at hd
    cases hd
    refine ⟨_, tg_name (by decide), fun _ => True, t_any (e_opQ (e_taken (n := 5) (a_row (a_cons e_int a_nil)) (by decide) (by decide)) e_int fun d e ⟨k, _, ed⟩ ee G ta tb ha hb => (e_cmp (f := fun i j => decide (i < j)) (ha.is ed) (hb.is ee)).imp fun _ z => ⟨_, z⟩), fun _ => ⟨js, ea, h1, fun j hj => by have := h2 j hj; omega⟩, fun _ => ⟨_, e_var, fun y hy => ⟨js ++ [i], by rw [hy, ea, List.map_append]; rfl, ?_, ?_⟩⟩⟩
    · exact List.pairwise_append.mpr ⟨h1, List.pairwise_singleton _ _, fun a ha b hb => by rw [List.mem_singleton.mp hb]; exact h2 a ha⟩
    · intro j hj
      rcases List.mem_append.mp hj with hj | hj
      · have := h2 j hj; omega
      · rw [List.mem_singleton.mp hj]; omega
theorem sc__law_plan : FnScope ["_law_row_here", "_law_things", "_law_probes", "_law_many", "_law_found", "_law_k", "_law_lot_here"] ["_law_row_here", "_law_things", "_law_probes"] (defScope s__law_plan) := ⟨rfl, rfl, rfl, by decide +kernel, rfl, by decide +kernel, by decide +kernel⟩
abbrev sp_plan (K : PySem.W.Frag) (T : List (Addr × Str)) : Sp := spA K T (fun os => ∃ t q : Nat, os = [.row, .dat (.int t), .dat (.int q)] ∧ 1 ≤ t ∧ t ≤ 10 ∧ q ≤ 16) (fun os d => ∀ t q : Nat, os = [.row, .dat (.int t), .dat (.int q)] → ∃ n ps, d = .tuple [.int (n : Nat), .tuple ps] ∧ GoodP n ps ∧ n ≤ t ∧ ps.length ≤ q)
theorem probe_of {n : Nat} {js : List Nat} (h : GoodJ n js) (h0 : js ≠ []) : isProbeD n (lotD js) = true := by
  show (lotGo n 0 (js.map fun (j : Nat) => PyData.int j) && decide ((0 : Int) < ((js.map fun (j : Nat) => PyData.int j).length : Nat))) = true
  rw [show lotGo n 0 (js.map fun (j : Nat) => PyData.int j) = true from lotGo_of (l := 0) h fun _ _ => Nat.zero_le _, List.length_map]
  have : 0 < js.length := List.length_pos_iff.mpr h0
  exact decide_eq_true (by omega)
theorem ok_plan {f f1 f2 : Addr} {fd fd1 fd2 : FuncData} (Fn : Fun K "_law_plan" "_law_plan" s__law_plan f fd) (X : Txt mg) (F1 : FnOk P w K mg base CX0 1 f1 fd1 ["_law_row_here", "_law_many"] (sp_taken K T)) (k1 : PySem.W.keepIn K (.ref f1) = true) (b1 : Binds K fd1 ["_law_row_here", "_law_many"] []) (m1 : mg "_law_taken" = some (.ref f1))
    (F2 : FnOk P w K mg base CX0 2 f2 fd2 ["_law_row_here", "_law_things"] (sp_lot K T)) (k2 : PySem.W.keepIn K (.ref f2) = true) (b2 : Binds K fd2 ["_law_row_here", "_law_things"] []) (m2 : mg "_law_lot" = some (.ref f2)) :
    FnOk P w K mg base CX0 3 f fd ["_law_row_here", "_law_things", "_law_probes"] (sp_plan K T) := by
  refine ok_def Fn sc__law_plan (fun os ⟨_, _, e, _⟩ => by rw [e]; rfl) fun cdv A outer s H E' hr => ?_
  have hr1 : Room 1 (A.deeper (envOfC "_law_plan" (defScope s__law_plan) s.heap.objs.size f cdv)) := hr.mono (by decide)
  refine ⟨_, (pss_cons (ps_par (i := 3) (j := 4) (by rfl) sc__law_plan.nd rfl rfl (by decide) rfl rfl (pa_cons (pe_op op_add pe_int (pe_call F1 hr1 (by rfl) m1 k1 b1 .nil pass0 (pa_cons (pv 0) (pa_cons (pv 1) pa_nil)))) (pa_cons (pe_tup pa_nil) pa_nil)) (by rfl))
  (pss_cons (ps_for PassesOwn.never rfl (pi_range1 rfl X.range (pa_cons (pe_call F1 hr1 (by rfl) m1 k1 b1 .nil pass0 (pa_cons (pv 0) (pa_cons (pe_op op_add (pv 2) pe_int) pa_nil))) pa_nil)) (pg_name (i := 5) sc__law_plan.nd rfl (by first | exact Or.inl rfl | exact Or.inr rfl)) (pss_cons (ps_set (i := 6) sc__law_plan.nd rfl (by first | exact Or.inl rfl | exact Or.inr rfl) (pe_call F2 hr (by rfl) m2 k2 b2 .nil pass0 (pa_cons (pv 0) (pa_cons (pv 3) pa_nil))))
  (pss_one (ps_set (i := 4) sc__law_plan.nd rfl (by first | exact Or.inl rfl | exact Or.inr rfl) (pe_op (r := rCatA K) op_catA (pv 4) (pe_tup (pa_cons (pe_ifExp (pt_cmpR (r := rNeD K) (op_neD hr.units) (pv 6) (pe_tup pa_nil) (nomark _)) (pv 6) (pe_tup (pa_cons (pe_call F1 hr1 (by rfl) m1 k1 b1 .nil pass0 (pa_cons (pv 0) (pa_cons (pv 3) pa_nil))) pa_nil))) pa_nil)))))))
  (pss_one (ps_ret (pe_tup (pa_cons (pv 3) (pa_cons (pv 4) pa_nil))))))), ?_⟩
  rintro os ⟨t, q, rfl, ht1, ht, hq⟩
  refine s_seq (s_parP (R := fun os => ∃ k : Nat, k < t ∧ os = [.dat (.int (1 + (k : Int))), .dat (.tuple [])]) ((a_consP (e_opQ (R := fun d => ∃ k : Nat, k < t ∧ d = .int (1 + (k : Int))) e_int (e_taken (n := t) (a_row (a_cons e_var a_nil)) (by omega) (by omega)) fun d e ed ⟨k, hk, ee⟩ G ta tb ha hb => (e_add (ha.is ed) (hb.is ee)).imp fun _ z => ⟨k, by omega, z⟩) (a_cons (e_tup (ds := []) a_nil (by show 0 ≤ 100000; decide)) a_nil)).imp fun os ⟨d, r, e, ⟨k, hk, ed⟩, er⟩ => ⟨k, hk, by rw [e, ed, er]⟩) fun os ⟨k, hk, e⟩ => ⟨_, _, e, ?_⟩)
  obtain ⟨n, hn1, hn⟩ : ∃ n : Nat, 1 ≤ n ∧ (n ≤ t ∧ (1 + (k : Int)) = (n : Int)) := ⟨1 + k, by omega, by omega, by omega⟩
  rw [hn.2]
  refine s_seq (s_forR (B := fun m => m ≤ q) ((a_consP (e_taken (n := (q : Int) + 1) (a_row (a_cons (e_add e_var e_int) a_nil)) (by omega) (by omega)) a_nil).imp fun os ⟨d, r, e, ⟨k, hk, ed⟩, er⟩ => ⟨k, by omega, by rw [e, ed, er]⟩) fun m hm => ?_)
  refine s_for (vs := [5]) (fun i G' => ∃ ps x y, G' = [some .row, some (.dat (.int t)), some (.dat (.int q)), some (.dat (.int n)), some (.dat (.tuple ps)), x, y] ∧ ps.length ≤ i ∧ ∀ p ∈ ps, isProbeD n p = true) (i_rngN a_ki (by omega)) ⟨[], none, none, rfl, Nat.le_refl _, fun p hp => by cases hp⟩ ?_ ?_
  · rintro i d G' hi hd ⟨ps, x, y, rfl, hl, hp⟩
    rw [rng_length] at hi
    refine ⟨_, tg_name (by decide), ?_⟩
    refine s_seq (s_asgP (e_call (P := fun d => ∃ js, d = lotD js ∧ GoodJ n js) (a_row (a_cons e_var a_nil)) ⟨n, rfl, by omega⟩ fun d p => p n rfl) fun l ⟨js, el, hj⟩ => ?_)
    subst el
    refine s_asgP (e_opQ (P := (· = .tuple ps)) (R := fun d => ∃ p, d = .tuple (ps ++ [p]) ∧ isProbeD n p = true) e_var (e_tup1 (P := fun p => isProbeD n p = true) (e_if (b := !PyData.eqv (lotD js) (.tuple [])) (t_B (e_neD e_var (e_tup (ds := []) a_nil (by show 0 ≤ 100000; decide)) ((sh_tup (k := 0) (intsD_map js).sh).shaped (by decide)) rfl)) (fun h => ?_) (fun h => ?_))) fun d e ed ⟨p, ee, hp'⟩ G ta tb ha hb => (e_catT (ha.is ed) (hb.is ee) (by rw [List.length_singleton]; omega)).imp fun _ z => ⟨p, z, hp'⟩) fun d ⟨p, ed, hp'⟩ => ?_
    · refine (e_var (i := 6)).imp fun d ed => ?_
      rw [ed]
      refine probe_of hj fun z => ?_
      rw [z] at h
      cases h
    · refine (e_tup1 (e_taken (n := (n : Int)) (a_row (a_cons e_var a_nil)) (by omega) (by omega))).imp fun d ⟨x, ed, k, hk, ex⟩ => ?_
      rw [ed, ex]
      exact probe_of (js := [k]) ⟨List.pairwise_singleton _ _, fun j hj => by rw [List.mem_singleton.mp hj]; omega⟩ (by simp)
    · subst ed
      refine ⟨_, _, _, rfl, by rw [List.length_append, List.length_singleton]; omega, fun z hz => ?_⟩
      rcases List.mem_append.mp hz with hz | hz
      · exact hp z hz
      · rw [List.mem_singleton.mp hz]; exact hp'
  · rintro G' ⟨ps, x, y, rfl, hl, hp⟩
    rw [rng_length] at hl
    refine s_ret (e_tup (ds := [.int n, .tuple ps]) (a_cons e_var (a_cons e_var a_nil)) (by show 2 ≤ 100000; decide)) fun t' q' e => ?_
    have e3 : t = t' ∧ q = q' := by
      injection e with _ e
      injection e with e1 e
      injection e with e2 _
      injection e1 with e1
      injection e1 with e1
      injection e2 with e2
      injection e2 with e2
      exact ⟨by omega, by omega⟩
    obtain ⟨rfl, rfl⟩ := e3
    exact ⟨n, ps, rfl, ⟨hn1, by omega, by omega, hp⟩, hn.1, by omega⟩
end
end K03

namespace K03
open PySem PySem.Spec L2 Dv DvC
open PyProof.Rows hiding St
section
variable {P : Program} {w : World} {K : PySem.W.Frag} {mg : Str → Option Value} {base : Heap} {T : List (Addr × Str)}
/-! the law's own answers -/
theorem any_empty {α : Type} (f : α → Bool) : ∀ xs : List α, (xs.filter f).isEmpty = !xs.any f
  | [] => rfl
  | x :: r => by
    rw [List.filter_cons, List.any_cons]
    cases h : f x with
    | true => rw [if_pos rfl]; rfl
    | false => rw [if_neg (by decide), any_empty f r]; rfl
/-- the scope of the comprehension in return f([..]) -/
def sc_in (st : Stmt) : Scope := match defBody st with
  | [.Return (some (.Call _ [.ListComp _ _ sc _] _ _)) _] => sc
  | _ => defScope st
theorem sc__law_answers : FnScope ["_law_plan_here", "_law_lot_here", "_law_probe", "_law_thing"] ["_law_plan_here", "_law_lot_here"] (defScope s__law_answers) := ⟨rfl, rfl, rfl, by decide +kernel, rfl, by decide +kernel, by decide +kernel⟩
def F_lans : List PyData → PyData
  | [.tuple [_, .tuple ps], l] => .tuple (ps.map fun p => ansD p l)
  | _ => .none
def IntT (d : PyData) : Prop := ∃ xs, d = .tuple xs ∧ IntsD xs ∧ xs.length ≤ 1000
theorem IntT.flat {d : PyData} (h : IntT d) : ∃ xs, d = .tuple xs ∧ FlatT xs := by
  obtain ⟨xs, e, a, b⟩ := h
  exact ⟨xs, e, a.flat, b⟩
abbrev sp_lans (K : PySem.W.Frag) (T : List (Addr × Str)) : Sp := spD K T (fun ds => ∃ (n : Nat) (ps : List PyData) (l : PyData), ds = [.tuple [.int n, .tuple ps], l] ∧ ps.length ≤ 1000 ∧ (∀ p ∈ ps, IntT p) ∧ IntT l) F_lans
theorem ok_lans {f : Addr} {fd : FuncData} (Fn : Fun K "_law_answers" "_law_answers" s__law_answers f fd) (X : Txt mg) : FnOk P w K mg base CX0 1 f fd ["_law_plan_here", "_law_lot_here"] (sp_lans K T) := by
  refine ok_defD Fn sc__law_answers (fun ds ⟨_, _, _, e, _⟩ => by rw [e]; rfl) fun cdv A outer s H E' hr => ?_
  refine ⟨_, (pss_one (ps_ret (pe_callTy (r := rTupQ K) call_tuple_of (by rfl) X.tuple bt_tuple (pa_cons (pe_lc (own := [("_law_probe", 2)]) rfl sc__law_answers.nd (pi_tup (pe_ix (r := rIxT K) ix_tup (pv 0) pe_int (fun _ _ => rfl))) (blkOk_by (N := ["_law_plan_here", "_law_lot_here", "_law_probe", "_law_thing"]) (sc := defScope s__law_answers) (by decide +kernel)) (fun _ _ _ _ _ => (pg_name (i := 2) sc__law_answers.nd rfl (by first | exact Or.inl rfl | exact Or.inr rfl))) (fun _ _ _ _ _ => pts_nil)
    (te := tCB rIntQ (tCons (tOp (rNeD K) (tLc (iTup K (tVar 2)) (gName 3) (tTest (tOp (rIn K false) (tVar 3) (tVar 1))) (tVar 3) [3]) (tLst tNil)) tNil)) (fun _ _ _ _ _ => (pe_callTy (r := rIntQ) call_int1 (by rfl) X.int bt_int (pa_cons (pe_cmpR (r := rNeD K) (op_neD hr.units) (pe_lc (wi := iTup K (tVar 2)) (tt := tTest (tOp (rIn K false) (tVar 3) (tVar 1))) (own := [("_law_thing", 3)]) rfl sc__law_answers.nd (pi_tup (pv 2)) (by exact blkOk_by (by rfl)) (fun _ _ _ _ _ => (pg_name (i := 3) sc__law_answers.nd rfl (by first | exact Or.inl rfl | exact Or.inr rfl))) (fun _ _ _ _ _ => (pts_one (pt_cmpR (r := rIn K false) op_in_seq (pv 3) (pv 1) (by rfl)))) (fun _ _ _ _ _ => (pv 3))) (pe_lst pa_nil) (nomark _)) pa_nil)))) pa_nil)))), ?_⟩
  rintro ds ⟨n, ps, l, rfl, hn, hp, ls, rfl, hl⟩
  refine s_ret (e_tupleL (a_cons (EL.is (el_lcM (vs := [2]) (fun p => ansD p (.tuple ls)) (i_tup (e_ixT (i := 1) e_var e_int rfl)) (fun d hd => ⟨_, tg_name (by decide), ?_⟩) (Nat.le_trans hn (by decide)))) a_nil)) rfl
  obtain ⟨xs, rfl, hx, hx2⟩ := hp d hd
  have sh1 : SeqAt.shaped (.list (xs.filter (memD ls))) = true := (sh_lst (k := 0) fun x hx' => hx.sh x (List.mem_filter.mp hx').1).shaped (by decide)
  refine E.is (e_intB (b := !PyData.eqv (.list (xs.filter (memD ls))) (.list [])) (a_cons (e_neD (E.is (EL.is (el_lcD (vs := [3]) (memD ls) (fun d => d) (i_tup e_var) (fun d hd => ⟨_, tg_name (by decide), ?_, fun _ => e_var⟩) (by omega))) (by rw [List.map_id'])) (EL.is (el_lst (ds := []) a_nil (by show 0 ≤ 100000; decide))) sh1 rfl) a_nil)) ?_
  · obtain ⟨i, rfl⟩ := hx d hd
    exact t_B (e_inSeq e_var e_var (.inr rfl) rfl hl.1.flat)
  · rw [eqv_nilL, any_empty, Bool.not_not]
    rfl
theorem ans_01 {p l : PyData} (hp : ∃ xs, p = .tuple xs ∧ FlatT xs) (hl : ∃ xs, l = .tuple xs ∧ FlatT xs) : ansD p l = .int 0 ∨ ansD p l = .int 1 := by
  obtain ⟨a, rfl, _⟩ := hp
  obtain ⟨b, rfl, _⟩ := hl
  show PyData.int (if hitD a b then 1 else 0) = _ ∨ PyData.int (if hitD a b then 1 else 0) = _
  cases hitD a b
  · exact .inl rfl
  · exact .inr rfl
theorem probe_int {n : Nat} {p : PyData} (h : isProbeD n p = true) (hn : n ≤ 10) : IntT p := by
  cases p with
  | tuple xs =>
    have h' : (lotGo n 0 xs && decide ((0 : Int) < xs.length)) = true := h
    rw [Bool.and_eq_true] at h'
    obtain ⟨a, b, c⟩ := lotGo_ok h'.1
    exact ⟨xs, rfl, fun d hd => let ⟨i, e, _⟩ := c d hd; ⟨i, e⟩, by omega⟩
  | _ => cases h
theorem lot_int {n : Nat} {js : List Nat} (h : GoodJ n js) (hn : n ≤ 1000) : IntT (lotD js) := ⟨_, rfl, intsD_map js, by rw [List.length_map]; have := h.len; omega⟩
theorem IntT.take {d : PyData} (h : IntT d) : ∃ ds, d = .tuple ds ∧ IntsD ds ∧ ds.length ≤ 1000 := h
theorem sc__law_said : FnScope ["_law_row_here", "_law_plan_here", "_law_due", "_law_found", "_law_one"] ["_law_row_here", "_law_plan_here"] (defScope s__law_said) := ⟨rfl, rfl, rfl, by decide +kernel, rfl, by decide +kernel, by decide +kernel⟩
abbrev sp_said (K : PySem.W.Frag) (T : List (Addr × Str)) : Sp := spA K T (fun os => ∃ (n : Nat) (ps : List PyData), os = [.row, .dat (.tuple [.int n, .tuple ps])] ∧ GoodP n ps) (fun os d => ∀ (n : Nat) (ps : List PyData), os = [.row, .dat (.tuple [.int n, .tuple ps])] → ∃ ts, d = .tuple ts ∧ ts.length = ps.length ∧ ∀ x ∈ ts, isAnsD x = true)
def saidL (x : PyData) (y : Int) : List PyData := [x, x, x, x, .int (1 - y), .none, .none]
theorem ok_said {f f1 f2 f3 : Addr} {fd fd1 fd2 fd3 : FuncData} (Fn : Fun K "_law_said" "_law_said" s__law_said f fd) (F1 : FnOk P w K mg base CX0 1 f1 fd1 ["_law_row_here", "_law_many"] (sp_taken K T)) (k1 : PySem.W.keepIn K (.ref f1) = true) (b1 : Binds K fd1 ["_law_row_here", "_law_many"] []) (m1 : mg "_law_taken" = some (.ref f1))
    (F2 : FnOk P w K mg base CX0 2 f2 fd2 ["_law_row_here", "_law_things"] (sp_lot K T)) (k2 : PySem.W.keepIn K (.ref f2) = true) (b2 : Binds K fd2 ["_law_row_here", "_law_things"] []) (m2 : mg "_law_lot" = some (.ref f2))
    (F3 : FnOk P w K mg base CX0 1 f3 fd3 ["_law_plan_here", "_law_lot_here"] (sp_lans K T)) (k3 : PySem.W.keepIn K (.ref f3) = true) (b3 : Binds K fd3 ["_law_plan_here", "_law_lot_here"] []) (m3 : mg "_law_answers" = some (.ref f3)) :
    FnOk P w K mg base CX0 3 f fd ["_law_row_here", "_law_plan_here"] (sp_said K T) := by
  refine ok_def Fn sc__law_said (fun os ⟨_, _, e, _⟩ => by rw [e]; rfl) fun cdv A outer s H E' hr => ?_
  have hr1 : Room 1 (A.deeper (envOfC "_law_said" (defScope s__law_said) s.heap.objs.size f cdv)) := hr.mono (by decide)
  refine ⟨_, (pss_cons (ps_par (i := 2) (j := 3) (by rfl) sc__law_said.nd rfl rfl (by decide) rfl rfl (pa_cons (pe_call F3 hr1 (by rfl) m3 k3 b3 .nil pass0 (pa_cons (pv 1) (pa_cons (pe_slice (r := rSlA K) sl_tupA (pe_call F2 hr (by rfl) m2 k2 b2 .nil pass0 (pa_cons (pv 0) (pa_cons (pe_ix (r := rIxT K) ix_tup (pv 1) pe_int (fun _ _ => rfl)) pa_nil))) po_none (po_some pe_int)) pa_nil))) (pa_cons (pe_tup pa_nil) pa_nil)) (by rfl))
  (pss_cons (ps_for PassesOwn.never rfl (pi_tup (pv 2)) (pg_name (i := 4) sc__law_said.nd rfl (by first | exact Or.inl rfl | exact Or.inr rfl)) (pss_one (ps_set (i := 3) sc__law_said.nd rfl (by first | exact Or.inl rfl | exact Or.inr rfl) (pe_op (r := rCatA K) op_catA (pv 3) (pe_tup (pa_cons (pe_ix (r := rIxL K) ix_list (pe_lst (pa_cons (pv 4) (pa_cons (pv 4) (pa_cons (pv 4) (pa_cons (pv 4) (pa_cons (pe_op op_sub pe_int (pv 4)) (pa_cons pe_non (pa_cons pe_non pa_nil)))))))) (pe_call F1 hr1 (by rfl) m1 k1 b1 .nil pass0 (pa_cons (pv 0) (pa_cons pe_int pa_nil))) (fun _ _ => rfl)) pa_nil))))))
  (pss_one (ps_ret (pv 3))))), ?_⟩
  rintro os ⟨n, ps, rfl, hg⟩
  have hn10 := hg.n10
  have hlen := hg.len
  have call : E K T (tCall (sp_lans K T) [] E0 (tCons (tVar 1) (tCons (tSl (rSlA K) (tCall (sp_lot K T) [] E0 (tCons (tVar 0) (tCons (tOp (rIxT K) (tVar 1) (tC (.int 0))) tNil))) tNoPart (tPart (tC (.int ((3 : Nat) : Int))))) tNil))) [some .row, some (.dat (.tuple [.int n, .tuple ps])), none, none, none] (fun d => ∃ rs : List PyData, rs.length = ps.length ∧ (∀ d ∈ rs, d = .int 0 ∨ d = .int 1) ∧ d = .tuple rs) := by
    refine e_callO (dvs := []) (a_consP (e_var (i := 1)) (a_consP (e_slT (k := 3) (P := fun ds => IntsD ds ∧ ds.length ≤ 1000) (e_call (P := IntT) (os := [.row, .dat (.int n)]) (a_row (a_cons (e_ixT (i := 0) e_var e_int rfl) a_nil)) ⟨n, rfl, by omega⟩ fun d p => ?_) fun ds p => ⟨fun d hd => p.1 d (List.mem_of_mem_take hd), by rw [List.length_take]; omega⟩) a_nil)) ?_
    · obtain ⟨js, rfl, hj⟩ := p n rfl
      exact lot_int hj (by omega)
    · rintro os ⟨d, r, rfl, rfl, l, r', rfl, ⟨ls, rfl, h1, h2⟩, rfl⟩
      have hps : ∀ p ∈ ps, IntT p := fun p hp => probe_int (hg.all p hp) hn10
      refine ⟨⟨[_, _], rfl, n, ps, _, rfl, by omega, hps, ls, rfl, h1, h2⟩, ?_⟩
      rintro d ⟨ds, e1, e2⟩
      have e3 := dats_inj (a := [.tuple [.int n, .tuple ps], .tuple ls]) e1
      subst e3
      refine ⟨ps.map fun p => ansD p (.tuple ls), by rw [List.length_map], fun x hx => ?_, e2⟩
      obtain ⟨p, hp, rfl⟩ := List.mem_map.mp hx
      exact ans_01 (hps p hp).flat ⟨ls, rfl, h1.flat, h2⟩
  refine s_seq (s_parP (R := fun os => ∃ rs : List PyData, rs.length = ps.length ∧ (∀ d ∈ rs, d = .int 0 ∨ d = .int 1) ∧ os = [.dat (.tuple rs), .dat (.tuple [])]) ((a_consP call (a_cons (e_tup (ds := []) a_nil (by show 0 ≤ 100000; decide)) a_nil)).imp fun os ⟨d, r, e, ⟨rs, h1, h2, ed⟩, er⟩ => ⟨rs, h1, h2, by rw [e, ed, er]⟩) fun os ⟨rs, h1, h2, e⟩ => ⟨_, _, e, ?_⟩)
  refine s_seq (s_for (vs := [4]) (fun i G' => ∃ ts x, G' = [some .row, some (.dat (.tuple [.int n, .tuple ps])), some (.dat (.tuple rs)), some (.dat (.tuple ts)), x] ∧ ts.length = i ∧ ∀ p ∈ ts, isAnsD p = true) (i_tup e_var) ⟨[], none, rfl, rfl, fun p hp => by cases hp⟩ ?_ ?_)
  · rintro i d G' hi hd ⟨ts, x, rfl, hl, hp⟩
    refine ⟨_, tg_name (by decide), ?_⟩
    obtain ⟨y, rfl, hy⟩ : ∃ y : Int, d = .int y ∧ (y = 0 ∨ y = 1) := by
      rcases h2 d (List.mem_of_getElem? hd) with z | z
      · exact ⟨0, z, .inl rfl⟩
      · exact ⟨1, z, .inr rfl⟩
    have hall : ∀ z ∈ saidL (.int y) y, isAnsD z = true := by
      rcases hy with rfl | rfl <;> decide
    refine s_asgP (e_opQ (P := (· = .tuple ts)) (R := fun d => ∃ p, d = .tuple (ts ++ [p]) ∧ isAnsD p = true) e_var (e_tup1 (P := fun p => isAnsD p = true) (e_ixLP (ds := saidL (.int y) y) (EL.is (el_lst (ds := saidL (.int y) y) (a_cons e_var (a_cons e_var (a_cons e_var (a_cons e_var (a_cons (e_sub e_int e_var) (a_cons e_non (a_cons e_non a_nil))))))) (by show 7 ≤ 100000; decide))) ((e_taken (n := 7) (a_row (a_cons e_int a_nil)) (by decide) (by decide)).imp fun d ⟨k, hk, e⟩ => ⟨k, by show k < 7; omega, e⟩) hall)) fun d e ed ⟨p, ee, hp'⟩ G ta tb ha hb => (e_catT (ha.is ed) (hb.is ee) (by rw [List.length_singleton]; omega)).imp fun _ z => ⟨p, z, hp'⟩) fun d ⟨p, ed, hp'⟩ => ?_
    subst ed
    refine ⟨_, _, rfl, by rw [List.length_append, List.length_singleton, hl], fun z hz => ?_⟩
    rcases List.mem_append.mp hz with hz | hz
    · exact hp z hz
    · rw [List.mem_singleton.mp hz]; exact hp'
  · rintro G' ⟨ts, x, rfl, hl, hp⟩
    refine s_ret e_var fun n' ps' e => ?_
    have e3 : ps = ps' := by
      injection e with _ e
      injection e with e _
      injection e with e
      injection e with e
      injection e with _ e
      injection e with e _
      injection e
    subst e3
    exact ⟨ts, rfl, by rw [hl, h1], hp⟩
/-! the law's own slips -/
theorem sc__law_slips : FnScope ["_law_told", "_law_due", "_law_k"] ["_law_told", "_law_due"] (defScope s__law_slips) := ⟨rfl, rfl, rfl, by decide +kernel, rfl, by decide +kernel, by decide +kernel⟩
theorem zip_rng {ts rs : List PyData} (h : ts.length = rs.length) : zipD ts rs = (rng rs.length).map fun d => match d with | .int i => .tuple [ts.getD i.toNat .none, rs.getD i.toNat .none] | _ => .none := by
  apply List.ext_getElem?
  intro i
  unfold zipD rng
  rw [List.getElem?_map, List.getElem?_map, List.getElem?_map]
  by_cases hi : i < rs.length
  · rw [List.getElem?_range hi, List.getElem?_eq_getElem (by rw [List.length_zip]; omega), List.getElem_zip]
    show some (PyData.tuple [ts[i], rs[i]]) = some (PyData.tuple [ts.getD (i : Int).toNat .none, rs.getD (i : Int).toNat .none])
    rw [Int.toNat_natCast, List.getD_eq_getElem?_getD, List.getD_eq_getElem?_getD, List.getElem?_eq_getElem (by omega), List.getElem?_eq_getElem hi]
    rfl
  · rw [List.getElem?_eq_none (by rw [List.length_zip]; omega), List.getElem?_eq_none (by rw [List.length_range]; omega)]
    rfl
abbrev sp_lslips (K : PySem.W.Frag) (T : List (Addr × Str)) : Sp := spD K T (fun ds => ∃ ts rs, ds = [.tuple ts, .tuple rs] ∧ ts.length = rs.length ∧ ts.length ≤ 1000 ∧ (∀ d ∈ ts, isAnsD d = true) ∧ ∀ d ∈ rs, IntD d) F_slips_in
def pickB (ts rs : List PyData) : PyData → Bool
  | .int i => !isNone (ts.getD i.toNat .none) && !eqD (ts.getD i.toNat .none) (rs.getD i.toNat .none)
  | _ => false
theorem ok_lslips {f : Addr} {fd : FuncData} (Fn : Fun K "_law_slips" "_law_slips" s__law_slips f fd) (X : Txt mg) : FnOk P w K mg base CX0 1 f fd ["_law_told", "_law_due"] (sp_lslips K T) := by
  refine ok_defD Fn sc__law_slips (fun ds ⟨_, _, e, _⟩ => by rw [e]; rfl) fun cdv A outer s H E' hr => ?_
  refine ⟨_, (pss_one (ps_ret (pe_callB (r := rLenQ K) call_len_seq (by rfl) X.len bt_len (pa_cons (pe_lc (tt := tAnd (tB (tNotN (tOp (rIxT K) (tVar 0) (tVar 2)))) (tTest (tOp rNe (tOp (rIxT K) (tVar 0) (tVar 2)) (tOp (rIxT K) (tVar 1) (tVar 2))))) (own := [("_law_k", 2)]) rfl sc__law_slips.nd (pi_range1 rfl X.range (pa_cons (pe_callB (r := rLenQ K) call_len_seq (by rfl) X.len bt_len (pa_cons (pv 1) pa_nil)) pa_nil)) (blkOk_by (N := ["_law_told", "_law_due", "_law_k"]) (sc := defScope s__law_slips) (by decide +kernel)) (fun _ _ _ _ _ => (pg_name (i := 2) sc__law_slips.nd rfl (by first | exact Or.inl rfl | exact Or.inr rfl))) (fun _ _ _ _ _ => (pts_one (PW.pt (pw_and (pt_cmp (pc_notN (pe_ix (r := rIxT K) ix_tup (pv 0) (pv 2) (fun _ _ => rfl))) rfl) (pw_and1 (pt_cmpR op_ne (pe_ix (r := rIxT K) ix_tup (pv 0) (pv 2) (fun _ _ => rfl)) (pe_ix (r := rIxT K) ix_tup (pv 1) (pv 2) (fun _ _ => rfl)) (nomark _))))))) (fun _ _ _ _ _ => (pv 2))) pa_nil)))), ?_⟩
  rintro ds ⟨ts, rs, rfl, hl, hn, h1, h2⟩
  refine s_ret (e_len (ds := (rng rs.length).filter (pickB ts rs)) (a_cons (E.is (EL.is (el_lcD (vs := [2]) (pickB ts rs) (fun d => d) (i_rngN (n := rs.length) (a_cons (e_len (a_cons e_var a_nil) (.inr rfl)) a_nil) (by omega)) (fun d hd => ⟨_, tg_name (by decide), ?_, fun _ => e_var⟩) (by rw [rng_length]; omega))) (by rw [List.map_id'])) a_nil) (.inl rfl)) ?_
  · obtain ⟨i, hi, rfl⟩ := mem_rng hd
    have g1 : ts[i]? = some (ts.getD i .none) := by rw [List.getD_eq_getElem?_getD, List.getElem?_eq_getElem (by omega)]; rfl
    have g2 : rs[i]? = some (rs.getD i .none) := by rw [List.getD_eq_getElem?_getD, List.getElem?_eq_getElem hi]; rfl
    have m1 := h1 _ (List.mem_of_getElem? g1)
    have m2 := h2 _ (List.mem_of_getElem? g2)
    show ET K T _ _ (· = (!isNone (ts.getD i .none) && !eqD (ts.getD i .none) (rs.getD i .none)))
    generalize ts.getD i .none = a at *
    generalize rs.getD i .none = b at *
    refine t_and (t_B (e_notN (e_ixT e_var e_var g1))) fun h => t_B (e_ne (e_ixT e_var e_var g1) (e_ixT e_var e_var g2) ?_)
    obtain ⟨j, rfl⟩ := m2
    rcases ans_or m1 with rfl | rfl | rfl <;> rfl
  · show PyData.int (((rng rs.length).filter (pickB ts rs)).length : Nat) = .int (slipsN ts rs)
    congr 2
    unfold slipsN
    rw [zip_rng hl, List.filter_map, List.length_map]
    congr 1
    apply List.filter_congr
    intro d hd
    obtain ⟨i, hi, rfl⟩ := mem_rng hd
    rfl
end
end K03

namespace K03
open PySem PySem.Spec L2 Dv DvC
open PyProof.Rows hiding St
section
variable {P : Program} {w : World} {K : PySem.W.Frag} {mg : Str → Option Value} {base : Heap} {T : List (Addr × Str)}
/-! the law's own lots -/
theorem build_len (m : Nat) : ∀ n, (buildL m n).length ≤ 2 ^ n
  | 0 => Nat.le_refl _
  | n + 1 => by
    show (buildL m n ++ ((buildL m n).filter fun l => decide (l.length < m)).map fun l => l ++ [n]).length ≤ _
    rw [List.length_append, List.length_map]
    have a := build_len m n
    have b := List.length_filter_le (fun l : List Nat => decide (l.length < m)) (buildL m n)
    rw [Nat.pow_succ]
    omega
theorem build_mem (m : Nat) : ∀ n, ∀ l ∈ buildL m n, l.length ≤ n
  | 0, l, h => by
    rw [List.mem_singleton.mp (show l ∈ [[]] from h)]
    exact Nat.le_refl _
  | n + 1, l, h => by
    rcases List.mem_append.mp (show l ∈ buildL m n ++ ((buildL m n).filter fun l => decide (l.length < m)).map fun l => l ++ [n] from h) with h | h
    · exact Nat.le_succ_of_le (build_mem m n l h)
    · obtain ⟨l', h', rfl⟩ := List.mem_map.mp h
      rw [List.length_append, List.length_singleton]
      exact Nat.succ_le_succ (build_mem m n l' (List.mem_filter.mp h').1)
theorem lotsN_eq (n m : Nat) : lotsN n m = (lotsL n m).map lotD := by
  unfold lotsN lotsL rng
  rw [List.map_flatMap, List.flatMap_map]
  rfl
def shorter (m : Nat) : PyData → Bool
  | .tuple xs => decide ((xs.length : Int) < m)
  | _ => false
def snocD (i : Nat) : PyData → PyData
  | .tuple xs => .tuple (xs ++ [.int i])
  | d => d
theorem step_build (m i : Nat) : (((buildL m i).map lotD).filter (shorter m)).map (snocD i) = (((buildL m i).filter fun l => decide (l.length < m)).map fun l => l ++ [i]).map lotD := by
  rw [List.filter_map, List.map_map, List.map_map]
  have e : (shorter m ∘ lotD) = fun l : List Nat => decide (l.length < m) := by
    funext l
    show decide ((((l.map fun (j : Nat) => PyData.int j).length : Nat) : Int) < m) = _
    rw [List.length_map]
    exact decide_eq_decide.mpr (by omega)
  rw [e]
  apply List.map_congr_left
  intro l _
  show PyData.tuple ((l.map fun (j : Nat) => PyData.int j) ++ [.int i]) = .tuple ((l ++ [i]).map fun (j : Nat) => PyData.int j)
  rw [List.map_append]
  rfl
theorem sc__law_lots : FnScope ["_law_things", "_law_most", "_law_found", "_law_thing", "_law_lot_here"] ["_law_things", "_law_most"] (defScope s__law_lots) := ⟨rfl, rfl, rfl, by decide +kernel, rfl, by decide +kernel, by decide +kernel⟩
abbrev sp_llots (K : PySem.W.Frag) (T : List (Addr × Str)) : Sp := spDL K T (fun ds => ∃ n m : Nat, ds = [.int n, .int m] ∧ n < 8 ∧ m < 4) F_lots_up_to
theorem ok_llots {f c Pt : Addr} {fd : FuncData} (Fn : FunC K "_law_lots" "_law_lots" s__law_lots f fd c) (X : Txt mg) (TB : LamX.TabB base mg c Pt) (hT : T = [(Pt, ((Str.ofString "_law_lots" ++ Str.ofString ".<locals>.") ++ Str.ofString "<lambda>"))]) :
    FnOk P w K mg base CX0 2 f fd ["_law_things", "_law_most"] (sp_llots K T) := by
  subst hT
  refine ok_defDLC Fn sc__law_lots (fun ds ⟨_, _, e, _⟩ => by rw [e]; rfl) fun A outer s H E' hr => ?_
  refine ⟨_, (pss_cons (ps_set (i := 2) sc__law_lots.nd rfl (by first | exact Or.inl rfl | exact Or.inr rfl) (pe_lst (pa_cons (pe_tup pa_nil) pa_nil)))
  (pss_cons (ps_for PassesOwn.never rfl (pi_range1 rfl X.range (pa_cons (pv 0) pa_nil)) (pg_name (i := 3) sc__law_lots.nd rfl (by first | exact Or.inl rfl | exact Or.inr rfl)) (pss_one (ps_set (i := 2) sc__law_lots.nd rfl (by first | exact Or.inl rfl | exact Or.inr rfl) (pe_op (r := rCat) op_cat (pv 2) (pe_lc (te := tOp (rCatA K) (tVar 4) (tTup (tCons (tVar 3) tNil))) (own := [("_law_lot_here", 4)]) rfl sc__law_lots.nd (pi_list (pv 2)) (blkOk_by (N := ["_law_things", "_law_most", "_law_found", "_law_thing", "_law_lot_here"]) (sc := defScope s__law_lots) (by decide +kernel)) (fun _ _ _ _ _ => (pg_name (i := 4) sc__law_lots.nd rfl (by first | exact Or.inl rfl | exact Or.inr rfl))) (fun _ _ _ _ _ => (pts_one (pt_cmpR op_lt (pe_callB (r := rLenQ K) call_len_seq (by rfl) X.len bt_len (pa_cons (pv 4) pa_nil)) (pv 1) (nomark _)))) (fun _ _ _ _ _ => (pe_op (r := rCatA K) op_catA (pv 4) (pe_tup (pa_cons (pv 3) pa_nil)))))))))
  (pss_one (ps_ret (pe_sortLam (T := [(Pt, ((Str.ofString "_law_lots" ++ Str.ofString ".<locals>.") ++ Str.ofString "<lambda>"))]) (pv 2) hr (by rfl) X.sorted X.len TB (by rfl) (List.mem_singleton.mpr rfl) (fun p hp _ => by rw [List.mem_singleton.mp hp]; rfl) (by rfl) (by decide +kernel) (by intros; rfl) (by rfl) (by rfl) (by decide +kernel) (by rfl) (by rfl) (by rfl) (by rfl)))))), ?_⟩
  rintro ds ⟨n, m, rfl, hn, hm⟩
  refine s_seq (s_asg (EL.is (el_lst (ds := [.tuple []]) (a_cons (e_tup (ds := []) a_nil (by show 0 ≤ 100000; decide)) a_nil) (by show 1 ≤ 100000; decide))) ?_)
  have hpow : ∀ i, i ≤ n → 2 ^ i ≤ 128 := fun i hi => Nat.le_trans (Nat.pow_le_pow_right (by decide) (show i ≤ 7 by omega)) (by decide)
  refine s_seq (s_for (vs := [3]) (fun i G' => ∃ x, G' = [some (.dat (.int n)), some (.dat (.int m)), some (.dat (.list ((buildL m i).map lotD))), x, none]) (i_rngN (n := n) (a_cons e_var a_nil) (by omega)) ⟨none, rfl⟩ ?_ ?_)
  · rintro i d G' hi hd ⟨x, rfl⟩
    rw [rng_length] at hi
    rw [rng_get hi] at hd
    cases hd
    refine ⟨_, tg_name (by decide), ?_⟩
    have hb := build_len m i
    have hp := hpow i (by omega)
    have hf : ((((buildL m i).map lotD).filter (shorter m)).map (snocD i)).length ≤ 128 := by
      rw [List.length_map]
      refine Nat.le_trans (List.length_filter_le ..) ?_
      rw [List.length_map]; omega
    refine s_asg (d := .list ((buildL m (i + 1)).map lotD)) (E.is (EL.is (el_cat (ds := (buildL m i).map lotD) (es := (((buildL m i).map lotD).filter (shorter m)).map (snocD i)) e_var (EL.is (el_lcD (vs := [4]) (shorter m) (snocD i) (i_list e_var) (fun d hd => ?_) (by rw [List.length_map]; omega))) (by rw [List.length_map]; omega))) ?_) ⟨_, rfl⟩
    · obtain ⟨l, hl, rfl⟩ := List.mem_map.mp hd
      have hll := build_mem m i l hl
      exact ⟨_, tg_name (by decide), t_B (e_cmp (f := fun i j => decide (i < j)) (e_len (a_cons e_var a_nil) (.inr rfl)) e_var), fun _ => e_catT e_var (e_tup (ds := [.int i]) (a_cons e_var a_nil) (by show 1 ≤ 100000; decide)) (by rw [List.length_map]; show l.length + 1 ≤ 100000; omega)⟩
    · rw [step_build, ← List.map_append]
      rfl
  · rintro G' ⟨x, rfl⟩
    rw [rng_length]
    have e1 : (buildL m n).map lotD = ((buildL m n).map toI).map tupD := by
      rw [List.map_map]
      exact List.map_congr_left fun l _ => (tupD_toI l).symm
    refine s_retL (el_sortL (Ls := (buildL m n).map toI) (E.is e_var (by rw [e1])) fun l hl => ?_) fun d hd => ?_
    · obtain ⟨l', hl', rfl⟩ := List.mem_map.mp hl
      have := build_mem m n l' hl'
      show (l'.map _).length ≤ 1000
      rw [List.length_map]; omega
    · rw [hd, sort_lots hn hm]
      show _ = lotsN n m
      rw [lotsN_eq, List.map_map]
      exact List.map_congr_left fun l _ => tupD_toI l
end
end K03

namespace K03
open PySem PySem.Spec L2 Dv DvC
open PyProof.Rows hiding St
section
variable {P : Program} {w : World} {K : PySem.W.Frag} {mg : Str → Option Value} {base : Heap} {T : List (Addr × Str)}
/-! alike -/
theorem e_ixS {G : Dv.Ctx} {ta tb : TE} {d : PyData} {ds : List PyData} {i : Nat} {x : PyData} (ha : E K T ta G (· = d)) (hb : E K T tb G (· = .int i)) (hd : d = .list ds ∨ d = .tuple ds) (h : ds[i]? = some x) : E K T (tOp (rIx K) ta tb) G (· = x) := e_op ha hb fun W H u y d' e' jh dx dy px py Q q => by
  subst px py
  cases dy.int_inv
  rcases hd with rfl | rfl
  · obtain ⟨a, xs, rfl, nx, ha, al⟩ := dx.lst_inv
    obtain ⟨v, h1, h2⟩ := al.get h
    exact .inl ⟨a, xs, i, v, rfl, rfl, SqL.of ha, atI_nat h1, q _ _ H (.refl H) jh h2 rfl⟩
  · obtain ⟨a, xs, rfl, nx, ha, al⟩ := dx.tup_inv
    obtain ⟨v, h1, h2⟩ := al.get h
    exact .inr (.inl ⟨a, xs, i, v, rfl, rfl, SqT.of ha, atI_nat h1, q _ _ H (.refl H) jh h2 rfl⟩)
def Lnx (p : PyData → Prop) : PyData → Prop
  | .none => True
  | .int _ => True
  | .list xs => xs.length ≤ 1000 ∧ ∀ x ∈ xs, p x
  | .tuple xs => xs.length ≤ 1000 ∧ ∀ x ∈ xs, p x
  | _ => False
abbrev F_yes : List PyData → PyData := fun _ => .bool true
abbrev sp_alike (K : PySem.W.Frag) (T : List (Addr × Str)) (p : PyData → Prop) : Sp := spD K T (fun ds => ∃ d, ds = [d, d] ∧ p d) F_yes
theorem sc__law_alike : FnScope ["_law_found", "_law_due", "_law_k", "_law_same_kind"] ["_law_found", "_law_due"] (defScope s__law_alike) := ⟨rfl, rfl, rfl, by decide +kernel, rfl, by decide +kernel, by decide +kernel⟩
theorem ok_alike1 {f : Addr} {fd : FuncData} {k : Nat} {p : PyData → Prop} (Fn : Fun K "_law_alike" "_law_alike" s__law_alike f fd) (X : Txt mg) (F1 : FnOk P w K mg base CX0 k f fd ["_law_found", "_law_due"] (sp_alike K T p)) (k1 : PySem.W.keepIn K (.ref f) = true) (b1 : Binds K fd ["_law_found", "_law_due"] []) (m1 : mg "_law_alike" = some (.ref f)) :
    FnOk P w K mg base CX0 (k + 1) f fd ["_law_found", "_law_due"] (sp_alike K T (Lnx p)) := by
  refine ok_defD Fn sc__law_alike (fun ds ⟨_, e, _⟩ => by rw [e]; rfl) fun cdv A outer s H E' hr => ?_
  refine ⟨_, (pss_cons (ps_if (pt_val (pe_callB (r := rIsiT K) call_isiT (by rfl) X.isinstance bt_isinstance (pa_cons (pv 1) (pa_cons (pe_tup (pa_cons (pe_bltn (v := .ty "tuple") (by rfl) X.tuple bt_tuple rfl) (pa_cons (pe_bltn (v := .ty "list") (by rfl) X.list bt_list rfl) pa_nil))) pa_nil)))) (pss_cons (ps_if (PW.pt (pw_or (pt_cmpR op_ne (pe_callB (r := rIsi K) call_isi (by rfl) X.isinstance bt_isinstance (pa_cons (pv 0) (pa_cons (pe_bltn (v := .ty "tuple") (by rfl) X.tuple bt_tuple rfl) pa_nil))) (pe_callB (r := rIsi K) call_isi (by rfl) X.isinstance bt_isinstance (pa_cons (pv 1) (pa_cons (pe_bltn (v := .ty "tuple") (by rfl) X.tuple bt_tuple rfl) pa_nil))) (nomark _)) (pw_or1 (pt_not (pt_val (pe_callB (r := rIsiT K) call_isiT (by rfl) X.isinstance bt_isinstance (pa_cons (pv 0) (pa_cons (pe_tup (pa_cons (pe_bltn (v := .ty "tuple") (by rfl) X.tuple bt_tuple rfl) (pa_cons (pe_bltn (v := .ty "list") (by rfl) X.list bt_list rfl) pa_nil))) pa_nil)))))))) (pss_one (ps_ret pe_bl)) pss_nil)
  (pss_cons (ps_if (pt_cmpR op_ne (pe_callB (r := rLenQ K) call_len_seq (by rfl) X.len bt_len (pa_cons (pv 0) pa_nil)) (pe_callB (r := rLenQ K) call_len_seq (by rfl) X.len bt_len (pa_cons (pv 1) pa_nil)) (nomark _)) (pss_one (ps_ret pe_bl)) pss_nil)
  (pss_one (ps_ret (pe_cmpR (r := rEqD K) (op_eqD hr.units) (pe_lc (tt := tNot (tB (tCall (sp_alike K T p) [] E0 (tCons (tOp (rIx K) (tVar 0) (tVar 2)) (tCons (tOp (rIx K) (tVar 1) (tVar 2)) tNil))))) (own := [("_law_k", 2)]) rfl sc__law_alike.nd (pi_range1 rfl X.range (pa_cons (pe_callB (r := rLenQ K) call_len_seq (by rfl) X.len bt_len (pa_cons (pv 1) pa_nil)) pa_nil)) (blkOk_by (N := ["_law_found", "_law_due", "_law_k", "_law_same_kind"]) (sc := defScope s__law_alike) (by decide +kernel)) (fun _ _ _ _ _ => (pg_name (i := 2) sc__law_alike.nd rfl (by first | exact Or.inl rfl | exact Or.inr rfl))) (fun _ _ _ _ _ => (pts_one (pt_not (pt_val (pe_call F1 hr (by rfl) m1 k1 b1 .nil pass0 (pa_cons (pe_ix (r := rIx K) ix_seq (pv 0) (pv 2) (fun _ _ => rfl)) (pa_cons (pe_ix (r := rIx K) ix_seq (pv 1) (pv 2) (fun _ _ => rfl)) pa_nil))))))) (fun _ _ _ _ _ => (pv 2))) (pe_lst pa_nil) (nomark _)))))) pss_nil)
  (pss_cons (ps_if (PW.pt (pw_or (pt_cmp (pc_isN (pv 1)) rfl) (pw_or1 (pt_cmp (pc_isN (pv 0)) rfl)))) (pss_one (ps_ret (pe_and (pe_cmp (pc_isN (pv 1)) rfl) (pe_one (pe_cmp (pc_isN (pv 0)) rfl))))) pss_nil)
  (pss_cons (ps_set (i := 3) sc__law_alike.nd rfl (by first | exact Or.inl rfl | exact Or.inr rfl) (pe_cmpR op_eq (pe_callB (r := rIsi K) call_isi (by rfl) X.isinstance bt_isinstance (pa_cons (pv 1) (pa_cons (pe_bltn (v := .ty "str") (by rfl) X.str bt_str rfl) pa_nil))) (pe_callB (r := rIsi K) call_isi (by rfl) X.isinstance bt_isinstance (pa_cons (pv 0) (pa_cons (pe_bltn (v := .ty "str") (by rfl) X.str bt_str rfl) pa_nil))) (nomark _)))
  (pss_one (ps_ret (pe_and (pv 3) (pe_and (pe_cmpR op_eq (pe_callB (r := rIsi K) call_isi (by rfl) X.isinstance bt_isinstance (pa_cons (pv 1) (pa_cons (pe_bltn (v := .ty "bool") (by rfl) X.bool bt_bool rfl) pa_nil))) (pe_callB (r := rIsi K) call_isi (by rfl) X.isinstance bt_isinstance (pa_cons (pv 0) (pa_cons (pe_bltn (v := .ty "bool") (by rfl) X.bool bt_bool rfl) pa_nil))) (nomark _)) (pe_one (pe_cmpR op_eq (pv 0) (pv 1) (nomark _)))))))))), ?_⟩
  rintro ds ⟨d, rfl, hd⟩
  have seq : ∀ xs : List PyData, (d = .list xs ∨ d = .tuple xs) → xs.length ≤ 1000 ∧ (∀ x ∈ xs, p x) → (kTup d || kLst d) = true := fun xs h _ => by
    rcases h with rfl | rfl <;> rfl
  have leaf : (kTup d || kLst d) = false → d = .none ∨ ∃ i, d = .int i := fun h => by
    cases d with
    | none => exact .inl rfl
    | int i => exact .inr ⟨i, rfl⟩
    | list xs => cases h
    | tuple xs => cases h
    | bool b => exact hd.elim
    | str x => exact hd.elim
    | dict x => exact hd.elim
  refine s_seq (s_if (t_B (e_isi2 e_var (kb_tup d) (kb_lst d))) (fun h => ?_) (fun h => s_next ?_))
  · obtain ⟨xs, hx, hl, hp⟩ : ∃ xs, (d = .list xs ∨ d = .tuple xs) ∧ xs.length ≤ 1000 ∧ ∀ x ∈ xs, p x := by
      cases d with
      | list xs => exact ⟨xs, .inl rfl, hd⟩
      | tuple xs => exact ⟨xs, .inr rfl, hd⟩
      | none => cases h
      | int i => cases h
      | bool b => exact hd.elim
      | str x => exact hd.elim
      | dict x => exact hd.elim
    refine s_seq (s_if (t_or (a := false) (b := false) (t_B (E.is (e_ne (e_isi e_var (kb_tup d)) (e_isi e_var (kb_tup d)) rfl) (by show PyData.bool (!decide (kTup d = kTup d)) = _; rw [decide_eq_true rfl]; rfl))) fun _ => ET.is (t_not (t_B (e_isi2 e_var (kb_tup d) (kb_lst d)))) (by rw [h]; rfl)) (fun h => by cases h) fun _ => s_next ?_)
    refine s_seq (s_if (t_B (b := false) (E.is (e_ne (e_len (a_cons e_var a_nil) hx) (e_len (a_cons e_var a_nil) hx) rfl) (by show PyData.bool (!decide ((xs.length : Int) = xs.length)) = _; rw [decide_eq_true rfl]; rfl))) (fun h => by cases h) fun _ => s_next ?_)
    refine s_ret (e_eqD (d := .list []) (e := .list []) (E.is (EL.is (el_lcD (vs := [2]) (fun _ => false) (fun d => d) (i_rngN (n := xs.length) (a_cons (e_len (a_cons e_var a_nil) hx) a_nil) (by omega)) (fun z hz => ?_) (by rw [rng_length]; omega))) (by rw [List.filter_eq_nil_iff.mpr fun _ _ => Bool.false_ne_true]; rfl)) (EL.is (el_lst (ds := []) a_nil (by show 0 ≤ 100000; decide))) rfl rfl) rfl
    obtain ⟨i, hi, rfl⟩ := mem_rng hz
    have g : xs[i]? = some xs[i] := List.getElem?_eq_getElem hi
    exact ⟨_, tg_name (by decide), ET.is (t_not (t_B (b := true) (e_callD (F := F_yes) (ds := [xs[i], xs[i]]) (a_cons (e_ixS e_var e_var hx g) (a_cons (e_ixS e_var e_var hx g) a_nil)) ⟨_, rfl, hp _ (List.getElem_mem hi)⟩))) rfl, fun _ => e_var⟩
  · rcases leaf h with rfl | ⟨i, rfl⟩
    · exact s_seq (s_if (t_or (t_B (e_isN e_var)) fun _ => t_B (e_isN e_var)) (fun _ => s_ret (e_andV (a := true) (b := true) (E.is (e_isN (d := .none) e_var) rfl) fun _ => E.is (e_isN (d := .none) e_var) rfl) rfl) fun h => by cases h)
    · refine s_seq (s_if (t_or (t_B (e_isN e_var)) fun _ => t_B (e_isN e_var)) (fun h => by cases h) fun _ => s_next ?_)
      refine s_seq (s_asg (e_eq (e_isi e_var (kb_str _)) (e_isi e_var (kb_str _)) rfl) ?_)
      refine s_ret (e_andV (a := true) (b := true) (E.is e_var rfl) fun _ => e_andV (a := true) (b := true) (E.is (e_eq (e_isi e_var (kb_bool _)) (e_isi e_var (kb_bool _)) rfl) rfl) fun _ => E.is (e_eq e_var e_var rfl) ?_) rfl
      show PyData.bool (decide (i = i)) = _
      rw [decide_eq_true rfl]
def Lk : Nat → PyData → Prop
  | 0 => fun _ => False
  | k + 1 => Lnx (Lk k)
theorem ok_alike {f : Addr} {fd : FuncData} (Fn : Fun K "_law_alike" "_law_alike" s__law_alike f fd) (X : Txt mg) (k1 : PySem.W.keepIn K (.ref f) = true) (b1 : Binds K fd ["_law_found", "_law_due"] []) (m1 : mg "_law_alike" = some (.ref f)) : ∀ k, FnOk P w K mg base CX0 k f fd ["_law_found", "_law_due"] (sp_alike K T (Lk k))
  | 0 => ⟨fun vs H Q E ⟨W, os, j, dv, ⟨ds, e, d, _, z⟩, _⟩ => z.elim, fun A outer s H args us vs Q E hr e0 hb r ⟨W, os, j, dv, ⟨ds, e, d, _, z⟩, _⟩ => z.elim⟩
  | k + 1 => ok_alike1 Fn X (ok_alike Fn X k1 b1 m1 k) k1 b1 m1
end
end K03

namespace K03
open PySem PySem.Spec L2 Dv DvC
open PyProof.Rows hiding St
section
variable {P : Program} {w : World} {K : PySem.W.Frag} {mg : Str → Option Value} {base : Heap} {T : List (Addr × Str)}
/-! the law's own steps -/
theorem el_rep01 {G : Dv.Ctx} {ta tb : TE} {ds : List PyData} {b : Bool} (ha : E K T ta G (· = .list ds)) (hb : E K T tb G (· = .int (if b then 1 else 0))) (hl : ds.length ≤ 100000) : EL K T (tOp rRep ta tb) G (· = if b then ds else []) := fun W σ H s j Q q =>
  ha W σ H s j _ fun x d H1 e1 j1 dx px => hb W σ H1 (s.mono e1) j1 _ fun y e H2 e2 j2 dy py => by
    subst px py
    obtain ⟨a, xs, rfl, nx, ha, al⟩ := (dx.mono e2).lst_inv
    cases dy.int_inv
    have hz : ds.length ≤ sizeLine := Nat.le_trans hl (by decide)
    refine ⟨a, _, xs, rfl, rfl, ha, ?_, ?_, ?_, fun p hp => ?_⟩
    · cases b <;> decide
    · cases b <;> decide
    · rw [al.length]
      cases b
      · show ds.length * 0 ≤ _; omega
      · show ds.length * 1 ≤ _; omega
    · cases b with
      | true =>
        have e3 : (List.replicate (if true = true then (1 : Int) else 0).toNat xs).flatten = xs := by
          show (List.replicate 1 xs).flatten = xs
          simp
        rw [e3]
        exact q p xs ds _ ((Fr.new hp).pre (e1.trans e2)) (j_new j2 hp) (new_ne j2 hp) upd_same (al.mono (.new hp)) rfl
      | false =>
        exact q p [] [] _ ((Fr.new hp).pre (e1.trans e2)) (j_new j2 hp) (new_ne j2 hp) upd_same .nil rfl
theorem sl_none {W : Wd K T} {H : Hp} {σ : L2.St} {G : Dv.Ctx} {i : Nat} {x : Option V} (h : Sl W H σ G) : Sl W H (σ.set i x) (G.set i none) := ⟨by simpa using h.len, fun j u e => by
  by_cases hj : i = j
  · subst hj
    by_cases hl : i < G.length
    · rw [List.getElem?_set_self hl] at e
      cases e
    · rw [List.getElem?_eq_none (by simpa using hl)] at e
      cases e
  · rw [List.getElem?_set_ne hj] at e
    rw [List.getElem?_set_ne hj]
    exact h.at_ j u e⟩
/-- two statements, the slots known between them told -/
theorem s_seqW {G : Dv.Ctx} {F : EndG} {t u : TS} (G2 : Dv.Ctx) (h : S K T t G { F with nx := fun G' => G2.length = G'.length ∧ ∀ (i : Nat) (o : Ob), G2[i]? = some (some o) → G'[i]? = some (some o) }) (h2 : S K T u G2 F) : S K T (tSeq t u) G F :=
  s_seq fun W D' σ H s j ok => h W D' σ H s j ⟨fun σ' H' G' e j' s' f => ok.nx σ' H' G' e j' s' (s_weak h2 f.1 f.2), ok.rt, ok.rl, ok.bk, ok.ct⟩
/-- x = [c, s]; if not alike(x, ..): return False; x[0].append(()) -/
theorem s_lists {G : Dv.Ctx} {F : EndG} {tc ts : TE} {tt : TT} {k : Nat} {cs : List PyData} {x : PyData} (hk : k < G.length) (hc : EL K T tc G (· = cs)) (hs : E K T ts G (· = x)) (ha : ET K T tt (G.set k (some (.dat (.list [.list cs, x])))) (· = true)) (hn : cs.length ≤ 1000) (hF : F.nx (G.set k none)) :
    S K T (tSeq (tAsg (tLst (tCons tc (tCons ts tNil))) (gName k)) (tSeq (tIfS (tNot tt) (tRet (tC (.bl false))) tNext) (tDrop (tBM K "list" rAppend (tOp (rIxL K) (tVar k) (tC (.int 0))) (tCons (tTup tNil) tNil))))) G F := fun W D' σ H s j ok =>
  hc W σ H s j _ fun p xs ds H1 f1 j1 n1 h1 al1 ed => hs W σ H1 (s.mono f1.ex) j1 _ fun v d H2 e2 j2 dv ed2 => by
    subst ed ed2
    have hkσ : k < σ.length := by rw [← s.len]; exact hk
    refine ⟨by show 2 ≤ sizeLine; decide, fun q hq => ?_⟩
    have e3 : Ex W H2 (upd H2 q (.lst [.ref p, v])) := .new hq
    have j3 := j_new (o := .lst [.ref p, v]) j2 hq
    have nq := new_ne j2 hq
    have eH : Ex W H (upd H2 q (.lst [.ref p, v])) := (f1.ex.trans e2).trans e3
    have dq : D W (upd H2 q (.lst [.ref p, v])) (.ref q) (.list [.list ds, d]) := .lst nq upd_same (.cons ((D.lst n1 h1 al1).mono (e2.trans e3)) (.cons (dv.mono e3) .nil))
    refine ha W (σ.set k (some (.ref q))) _ ((s.mono eH).set (.dat dq)) j3 _ fun b H4 e4 j4 hb => ?_
    subst hb
    refine iteF ?_
    have gk : (σ.set k (some (V.ref q)))[k]? = some (some (.ref q)) := List.getElem?_set_self hkσ
    have h4q : H4 q = some (.lst [.ref p, v]) := e4.k q _ upd_same (fun _ z => by cases z) nq
    have e14 : Ex W H1 H4 := (e2.trans e3).trans e4
    have h4p : H4 p = some (.lst xs) := e14.k p _ h1 (fun _ z => by cases z) n1
    refine ⟨.ref q, gk, q, [.ref p, v], 0, .ref p, rfl, rfl, SqL.of h4q, rfl, Or.inl ⟨rfl, xs, SqL.of h4p⟩, by show 0 ≤ sizeLine; decide, fun z hz => ?_⟩
    have e5 : Ex W H4 (upd H4 z (.tup [])) := .new hz
    have h5p : (upd H4 z (.tup [])) p = some (.lst xs) := e5.k p _ h4p (fun _ z => by cases z) n1
    refine ⟨p, xs, .ref z, rfl, rfl, h5p, Nat.lt_of_le_of_lt (by rw [al1.length]; exact hn) (by decide), ?_⟩
    have eF : Ex W H (upd (upd H4 z (.tup [])) p (.lst (xs ++ [.ref z]))) := (f1.post (e14.trans e5)).mut
    exact ok.nx _ _ _ eF (W.ju (j_new j4 hz) (.inr (.inl ⟨xs, h5p⟩)) n1) (sl_none (s.mono eF)) hF
/-! what the law makes out, and what could and sure tell -/
def fIn (neg : Bool) (d : PyData) : PyData → Bool
  | .tuple [.tuple xs, _] => if neg then !memD xs d else memD xs d
  | _ => false
theorem fIn_pair {ps ts : List PyData} {l d : PyData} (neg : Bool) (h : ∃ xs, l = .tuple xs ∧ FlatT xs) : fIn neg d (pairV ps ts l) = if neg then !inLot d l else inLot d l := by
  obtain ⟨xs, rfl, _⟩ := h
  rfl
theorem in_all_eq {ps ts ls : List PyData} (d : PyData) (h : ∀ l ∈ ls, ∃ xs, l = .tuple xs ∧ FlatT xs) : (((ls.map (pairV ps ts)).filter (fIn true d)).map fstD).isEmpty = decide (haveN d ls = ls.length) := by
  rw [List.filter_map, List.map_map, List.isEmpty_map]
  rw [List.filter_congr (p := fIn true d ∘ pairV ps ts) (q := fun l => !inLot d l) fun l hl => fIn_pair true (h l hl)]
  unfold haveN
  rw [Bool.eq_iff_iff, decide_eq_true_eq, List.isEmpty_iff, List.filter_eq_nil_iff, List.length_filter_eq_length_iff]
  simp
theorem in_none_eq {ps ts ls : List PyData} (d : PyData) (h : ∀ l ∈ ls, ∃ xs, l = .tuple xs ∧ FlatT xs) : (((ls.map (pairV ps ts)).filter (fIn false d)).map fstD).isEmpty = decide (haveN d ls = 0) := by
  rw [List.filter_map, List.map_map, List.isEmpty_map]
  rw [List.filter_congr (p := fIn false d ∘ pairV ps ts) (q := fun l => inLot d l) fun l hl => fIn_pair false (h l hl)]
  unfold haveN
  rw [Bool.eq_iff_iff, decide_eq_true_eq, List.isEmpty_iff, List.length_eq_zero_iff]
theorem rng_filter {n : Nat} (f : PyData → Bool) : IntsD ((rng n).filter f) ∧ ((rng n).filter f).length ≤ n := ⟨fun d hd => by
  obtain ⟨i, _, rfl⟩ := mem_rng (List.mem_filter.mp hd).1
  exact ⟨i, rfl⟩, Nat.le_trans (List.length_filter_le ..) (Nat.le_of_eq (rng_length n))⟩
theorem Pre.lotI {n : Nat} {ps ts : List PyData} {m sl : Nat} (h : Pre n ps ts m sl) {l : PyData} (hl : l ∈ lotsN n m) : IntT l := by
  have := h.g.n10
  have := h.m3
  obtain ⟨js, rfl, a, _⟩ := lots_ok (by omega) (by omega) hl
  exact ⟨_, rfl, intsD_map js, by rw [List.length_map]; exact a⟩
theorem sh_pair {l : PyData} {c : Int} (h : IntT l) : Sh 2 (.tuple [l, .int c]) := sh_tup fun d hd => by
  rcases List.mem_cons.mp hd with rfl | hd
  · obtain ⟨xs, rfl, a, _⟩ := h
    exact sh_tup a.sh
  · rw [List.mem_singleton.mp hd]
    exact sh_int
theorem Pre.shC {n : Nat} {ps ts : List PyData} {m sl : Nat} (h : Pre n ps ts m sl) : Sh 3 (.list (couldL n ps ts m sl)) := sh_lst fun d hd => by
  obtain ⟨l, hl, rfl⟩ := List.mem_map.mp hd
  exact sh_pair (h.lotI (List.mem_filter.mp hl).1)
theorem Pre.shS {n : Nat} {ps ts : List PyData} {m sl : Nat} (h : Pre n ps ts m sl) : Sh 2 (sureD n ps ts m sl) := by
  unfold sureD
  split
  · exact sh_non
  · refine sh_tup fun d hd => ?_
    rcases List.mem_cons.mp hd with rfl | hd
    · exact sh_lst (rng_filter _).1.sh
    · rw [List.mem_singleton.mp hd]
      exact sh_lst (rng_filter _).1.sh
theorem Pre.sh2 {n : Nat} {ps ts : List PyData} {m sl : Nat} (h : Pre n ps ts m sl) : Sh 4 (.list [.list (couldL n ps ts m sl), sureD n ps ts m sl]) := sh_lst fun d hd => by
  rcases List.mem_cons.mp hd with rfl | hd
  · exact h.shC
  · rw [List.mem_singleton.mp hd]
    exact h.shS.mono (by decide)
theorem lk_ints {k : Nat} {xs : List PyData} (h : IntsD xs) (hl : xs.length ≤ 1000) : Lk (k + 2) (.list xs) ∧ Lk (k + 2) (.tuple xs) := by
  have z : ∀ x ∈ xs, Lk (k + 1) x := fun x hx => by
    obtain ⟨i, rfl⟩ := h x hx
    trivial
  exact ⟨⟨hl, z⟩, ⟨hl, z⟩⟩
theorem couldL_len {n : Nat} {ps ts : List PyData} {m sl : Nat} (h : Pre n ps ts m sl) : (couldL n ps ts m sl).length < 1000 := by
  unfold couldL
  rw [List.length_map]
  exact Nat.lt_of_le_of_lt (List.length_filter_le ..) h.len
theorem Pre.lk {n : Nat} {ps ts : List PyData} {m sl : Nat} (h : Pre n ps ts m sl) : Lk 5 (.list [.list (couldL n ps ts m sl), sureD n ps ts m sl]) := by
  refine ⟨by show 2 ≤ 1000; decide, fun d hd => ?_⟩
  rcases List.mem_cons.mp hd with rfl | hd
  · refine ⟨Nat.le_of_lt (couldL_len h), fun e he => ?_⟩
    obtain ⟨l, hl, rfl⟩ := List.mem_map.mp he
    refine ⟨by show 2 ≤ 1000; decide, fun x hx => ?_⟩
    rcases List.mem_cons.mp hx with rfl | hx
    · obtain ⟨xs, rfl, a, b⟩ := h.lotI (List.mem_filter.mp hl).1
      exact (lk_ints (k := 0) a b).2
    · rw [List.mem_singleton.mp hx]
      trivial
  · rw [List.mem_singleton.mp hd]
    have hn := h.g.n10
    unfold sureD
    split
    · trivial
    · refine ⟨by show 2 ≤ 1000; decide, fun x hx => ?_⟩
      rcases List.mem_cons.mp hx with rfl | hx
      · exact (lk_ints (k := 1) (rng_filter _).1 (Nat.le_trans (rng_filter _).2 (by omega))).1
      · rw [List.mem_singleton.mp hx]
        exact (lk_ints (k := 1) (rng_filter _).1 (Nat.le_trans (rng_filter _).2 (by omega))).1
end
end K03

namespace K03
open PySem PySem.Spec L2 Dv DvC
open PyProof.Rows hiding St
section
variable {P : Program} {w : World} {K : PySem.W.Frag} {mg : Str → Option Value} {base : Heap} {T : List (Addr × Str)}
/-- a code object is no set -/
theorem heap_of_size : ∀ n : Nat, ∃ h : Heap, h.objs.size = n
  | 0 => ⟨{}, rfl⟩
  | n + 1 => by
    obtain ⟨h, e⟩ := heap_of_size n
    exact ⟨h.push { cls := .none, data := .plain }, by rw [Heap.size_push, e]⟩
theorem codeO_set {P : Program} {w : World} {c : Addr} {q : Str} {L : List (Addr × List Int)} (e : LamX.CodeO c q = SetTO P w c L) : False := by
  unfold LamX.CodeO SetTO at e
  injection e with e
  obtain ⟨h, hs⟩ := heap_of_size c
  have z := congrFun e (h.push { cls := .none, data := .fields #[.none, .str q 0] })
  have g : (h.push { cls := .none, data := .fields #[.none, .str q 0] }).get? c = some { cls := .none, data := .fields #[.none, .str q 0] } := by
    rw [← hs]
    exact Heap.get?_push_size _ rfl
  have y := (iff_of_eq z).mp ⟨_, _, 0, g, rfl, rfl⟩
  obtain ⟨es, ep, t, ⟨o, ho, _, hd⟩, _⟩ := y.ex
  rw [g] at ho
  cases ho
  cases hd
def sp_law (K : PySem.W.Frag) (T : List (Addr × Str)) : Sp := fun vs H Q _ => ∃ (a : Addr) (ns : List Int), vs = [.ref a] ∧ SqL K H a (ns.map V.int) ∧ LamX.Tabs T H ∧ ∀ H', Q (.bl true) H'
/-! the world behind the row's making -/
theorem tabs_upd {H : Hp} {q : Addr} {o : HO} (t : LamX.Tabs T H) (h : Fre H q) : LamX.Tabs T (upd H q o) := fun p hp => by
  obtain ⟨ps, h1, h2, h3⟩ := t p hp
  have ne1 : p.1 ≠ q := fun z => by
    subst z
    rcases h with h | ⟨xs, h⟩ | ⟨P, w, L, h⟩ <;> rw [h1] at h <;> cases h
  refine ⟨ps, by rw [upd_ne ne1]; exact h1, h2, fun pos cv hc => ?_⟩
  obtain ⟨c, e, hcc⟩ := h3 pos cv hc
  have ne2 : c ≠ q := fun z => by
    subst z
    rcases h with h | ⟨xs, h⟩ | ⟨P, w, L, h⟩ <;> rw [hcc] at h
    · cases h
    · unfold LamX.CodeO at h; cases h
    · exact codeO_set (Option.some.inj h)
  exact ⟨c, e, by rw [upd_ne ne2]; exact hcc⟩
def Scr (K : PySem.W.Frag) (a : Addr) (ns : List Int) (b : Bool) (H : Hp) : Prop := (b = true ∧ H a = some (.lst (ns.map V.int))) ∨ (b = false ∧ ((∃ o, H a = some (.frz o (.lst (ns.map V.int)))) ∨
  ∃ (o : Obj) (its : Array Value) (n : Nat), K.lookup a = some o ∧ o.cls = .type "list" ∧ o.dict = none ∧ o.data = .seq its n ∧ its.size ≤ sizeLine ∧ Vals (ns.map V.int) its.toList))
theorem Scr.sq {a : Addr} {ns : List Int} {b : Bool} {H : Hp} (h : Scr K a ns b H) : SqL K H a (ns.map V.int) := by
  rcases h with ⟨_, h⟩ | ⟨_, h | h⟩
  · exact .inl (.inl h)
  · exact .inl (.inr h)
  · exact .inr h
theorem scr_of {a : Addr} {ns : List Int} {H : Hp} (h : SqL K H a (ns.map V.int)) : ∃ b, Scr K a ns b H := by
  rcases h with (h | h) | h
  · exact ⟨true, .inl ⟨rfl, h⟩⟩
  · exact ⟨false, .inr ⟨rfl, .inl h⟩⟩
  · exact ⟨false, .inr ⟨rfl, .inr h⟩⟩
theorem Scr.upd {a q : Addr} {ns : List Int} {b : Bool} {H : Hp} {o : HO} (h : Scr K a ns b H) (hq : Fre H q) (hn : b = true → a ≠ q) : Scr K a ns b (upd H q o) := by
  rcases h with ⟨hb, h⟩ | ⟨hb, ⟨u, h⟩ | h⟩
  · exact .inl ⟨hb, by rw [upd_ne (hn hb)]; exact h⟩
  · have n : a ≠ q := fun z => by
      subst z
      rcases hq with e | ⟨xs, e⟩ | ⟨P, w, L, e⟩ <;> rw [h] at e <;> cases e
    exact .inr ⟨hb, .inl ⟨u, by rw [upd_ne n]; exact h⟩⟩
  · exact .inr ⟨hb, .inr h⟩
theorem Scr.ext {a : Addr} {ns : List Int} {b : Bool} {H H' : Hp} (h : Scr K a ns b H) (e : LamX.ExtN H H') : Scr K a ns b H' := by
  rcases h with ⟨hb, h⟩ | ⟨hb, ⟨u, h⟩ | h⟩
  · exact .inl ⟨hb, e _ _ h fun _ z => by cases z⟩
  · exact .inr ⟨hb, .inl ⟨u, e _ _ h fun _ z => by cases z⟩⟩
  · exact .inr ⟨hb, .inr h⟩
theorem Scr.ne {a p : Addr} {ns : List Int} {b : Bool} {H : Hp} {v : Addr} {r : List V} (h : Scr K a ns b H) (hp : H p = some (.lst (.ref v :: r))) (hb : b = true) : a ≠ p := fun z => by
  subst z
  rcases h with ⟨_, h⟩ | ⟨hb', _⟩
  · rw [hp] at h
    cases ns <;> cases h
  · rw [hb] at hb'; cases hb'
def rowJ (K : PySem.W.Frag) (T : List (Addr × Str)) (p a : Addr) (ns : List Int) (b : Bool) (H : Hp) : Prop := (∃ i c m : Int, H p = some (.lst [.ref a, .int i, .int c, .int m]) ∧ 0 ≤ i ∧ 0 ≤ m ∧ m < 2147483647) ∧ Scr K a ns b H ∧ LamX.Tabs T H
def rowW (K : PySem.W.Frag) (T : List (Addr × Str)) (p a : Addr) (ns : List Int) (b : Bool) : Wd K T where
  r := some p
  X := fun x => x = p ∨ (b = true ∧ x = a)
  J := rowJ K T p a ns b
  ju := fun {H q o} ⟨⟨i, c, m, h, h0⟩, hs, ht⟩ hq hx => ⟨⟨i, c, m, by rw [upd_ne (show p ≠ q from fun z => hx (.inl z.symm))]; exact h, h0⟩, hs.upd hq fun hb z => hx (.inr ⟨hb, z.symm⟩), tabs_upd ht hq⟩
  jx := fun {H x} ⟨⟨i, c, m, h, h0⟩, hs, ht⟩ hx => by
    rcases hx with rfl | ⟨hb, rfl⟩
    · rw [h]; simp
    · rcases hs with ⟨_, h⟩ | ⟨hb', _⟩
      · rw [h]; simp
      · rw [hb] at hb'; cases hb'
  jt := fun {H H1} ⟨⟨i, c, m, h, h0⟩, hs, ht⟩ e t => ⟨⟨i, c, m, (e _ _ h (fun _ z => by cases z)), h0⟩, hs.ext e, t⟩
  jT := fun {H} j => j.2.2
  rx := fun {x} e => .inl (Option.some.inj e).symm
  row := fun {H x} ⟨⟨i, c, m, h, h0, h1, h2⟩, hs, ht⟩ e => by
    obtain rfl := Option.some.inj e
    exact ⟨a, ns, i, c, m, h, hs.sq, h0, h1, h2⟩
  jw := fun {H x sc i c m i' c' m'} ⟨⟨i0, c0, m0, h, h0⟩, hs, ht⟩ e hx h1 h2 h3 => by
    obtain rfl := Option.some.inj e
    have e2 : sc = a := by
      rw [h] at hx
      cases hx
      rfl
    subst e2
    exact ⟨⟨i', c', m', upd_same, h1, h2, h3⟩, hs.upd (.inr (.inl ⟨_, h⟩)) fun hb => hs.ne h hb, tabs_upd ht (.inr (.inl ⟨_, h⟩))⟩
abbrev g15 (t p m td f s l mn du th b ag li : Option Ob) : Dv.Ctx := [none, some .row, t, p, m, td, f, s, l, mn, du, th, b, ag, li]
def accL (n : Nat) (ps ts : List PyData) (m sl i : Nat) : List PyData := (((lotsN n m).take i).filter fun l => decide (cnt ps ts l ≤ sl)).map (pairV ps ts)
theorem accL_le {n : Nat} {ps ts : List PyData} {m sl i : Nat} : (accL n ps ts m sl i).length ≤ (lotsN n m).length := by
  unfold accL
  rw [List.length_map]
  exact Nat.le_trans (List.length_filter_le ..) (by rw [List.length_take]; omega)
theorem accL_step {n : Nat} {ps ts : List PyData} {m sl i : Nat} {l : PyData} (h : (lotsN n m)[i]? = some l) : accL n ps ts m sl (i + 1) = accL n ps ts m sl i ++ (if decide (cnt ps ts l ≤ sl) then [pairV ps ts l] else []) := by
  unfold accL
  rw [filter_take h]
theorem accL_all {n : Nat} {ps ts : List PyData} {m sl : Nat} : accL n ps ts m sl (lotsN n m).length = couldL n ps ts m sl := by
  unfold accL
  rw [List.take_length]
  rfl
theorem shB {n : Nat} {ps ts : List PyData} {m sl : Nat} (h : Pre n ps ts m sl) : SeqAt.shaped (.list (couldL n ps ts m sl)) = true := h.shC.shaped (by decide)
theorem couldL_pair {n : Nat} {ps ts : List PyData} {m sl : Nat} : couldL n ps ts m sl = (lotsC n ps ts m sl).map (pairV ps ts) := rfl
theorem s_enter {A B : TS} {D : Ends} {σ : L2.St} {H : Hp} {G : Dv.Ctx} {F : EndG} {W : Wd K T} (hS : S K T (tSeq A B) G F) (sl : Sl W H σ G) (j : W.J H) (ok : Ok W D F H) : (tSeq A B) D σ H := hS W D _ H sl j ok
theorem g15_le {a0 a1 a2 a3 a4 a5 a6 a7 a8 a9 a10 a11 a12 b0 b1 b2 b3 b4 b5 b6 b7 b8 b9 b10 b11 b12 : Option Ob} (h0 : a0 = none ∨ a0 = b0) (h1 : a1 = none ∨ a1 = b1) (h2 : a2 = none ∨ a2 = b2) (h3 : a3 = none ∨ a3 = b3) (h4 : a4 = none ∨ a4 = b4) (h5 : a5 = none ∨ a5 = b5) (h6 : a6 = none ∨ a6 = b6) (h7 : a7 = none ∨ a7 = b7) (h8 : a8 = none ∨ a8 = b8) (h9 : a9 = none ∨ a9 = b9) (h10 : a10 = none ∨ a10 = b10) (h11 : a11 = none ∨ a11 = b11) (h12 : a12 = none ∨ a12 = b12) : (g15 a0 a1 a2 a3 a4 a5 a6 a7 a8 a9 a10 a11 a12).length = (g15 b0 b1 b2 b3 b4 b5 b6 b7 b8 b9 b10 b11 b12).length ∧ ∀ (i : Nat) (o : Ob), (g15 a0 a1 a2 a3 a4 a5 a6 a7 a8 a9 a10 a11 a12)[i]? = some (some o) → (g15 b0 b1 b2 b3 b4 b5 b6 b7 b8 b9 b10 b11 b12)[i]? = some (some o) := by
  refine ⟨rfl, fun i o hi => ?_⟩
  have key : ∀ {a b : Option Ob}, a = none ∨ a = b → some a = some (some o) → some b = some (some o) := fun h e => by
    rcases h with h | h
    · rw [h] at e; cases e
    · rw [← h]; exact e
  match i, hi with
  | 0, hi => cases hi
  | 1, hi => exact hi
  | 2, hi => exact key h0 hi
  | 3, hi => exact key h1 hi
  | 4, hi => exact key h2 hi
  | 5, hi => exact key h3 hi
  | 6, hi => exact key h4 hi
  | 7, hi => exact key h5 hi
  | 8, hi => exact key h6 hi
  | 9, hi => exact key h7 hi
  | 10, hi => exact key h8 hi
  | 11, hi => exact key h9 hi
  | 12, hi => exact key h10 hi
  | 13, hi => exact key h11 hi
  | 14, hi => exact key h12 hi
  | (k + 15), hi => simp at hi
theorem sc_law : FnScope ["_law_script", "_law_row_here", "_law_turn", "_law_plan_here", "_law_most", "_law_told", "_law_far", "_law_some", "_law_lot_here", "_law_many", "_law_due", "_law_thing", "_law_bad", "_law_again", "_law_lists"] ["_law_script"] (defScope s_law) := ⟨rfl, rfl, rfl, by decide +kernel, rfl, by decide +kernel, by decide +kernel⟩
theorem ok_law {f f__law_row f__law_plan f__law_taken f__law_said f__law_lots f__law_answers f__law_slips f__law_alike f_could f_sure : Addr} {fd fd__law_row fd__law_plan fd__law_taken fd__law_said fd__law_lots fd__law_answers fd__law_slips fd__law_alike fd_could fd_sure : FuncData} {g_could g_sure : List Value → List Value → List Value} {gV_could gV_sure : List V → List V → List V} {ds_could ds_sure : List Value} (Fn : Fun K "law" "law" s_law f fd) (X : Txt mg)
    (F__law_row : FnOk P w K mg base CX0 1 f__law_row fd__law_row ["_law_script"] (sp_row K)) (k__law_row : PySem.W.keepIn K (.ref f__law_row) = true) (m__law_row : mg "_law_row" = some (.ref f__law_row)) (b__law_row : Binds K fd__law_row ["_law_script"] [])
    (F__law_plan : FnOk P w K mg base CX0 3 f__law_plan fd__law_plan ["_law_row_here", "_law_things", "_law_probes"] (sp_plan K T)) (k__law_plan : PySem.W.keepIn K (.ref f__law_plan) = true) (m__law_plan : mg "_law_plan" = some (.ref f__law_plan)) (b__law_plan : Binds K fd__law_plan ["_law_row_here", "_law_things", "_law_probes"] [])
    (F__law_taken : FnOk P w K mg base CX0 1 f__law_taken fd__law_taken ["_law_row_here", "_law_many"] (sp_taken K T)) (k__law_taken : PySem.W.keepIn K (.ref f__law_taken) = true) (m__law_taken : mg "_law_taken" = some (.ref f__law_taken)) (b__law_taken : Binds K fd__law_taken ["_law_row_here", "_law_many"] [])
    (F__law_said : FnOk P w K mg base CX0 3 f__law_said fd__law_said ["_law_row_here", "_law_plan_here"] (sp_said K T)) (k__law_said : PySem.W.keepIn K (.ref f__law_said) = true) (m__law_said : mg "_law_said" = some (.ref f__law_said)) (b__law_said : Binds K fd__law_said ["_law_row_here", "_law_plan_here"] [])
    (F__law_lots : FnOk P w K mg base CX0 2 f__law_lots fd__law_lots ["_law_things", "_law_most"] (sp_llots K T)) (k__law_lots : PySem.W.keepIn K (.ref f__law_lots) = true) (m__law_lots : mg "_law_lots" = some (.ref f__law_lots)) (b__law_lots : Binds K fd__law_lots ["_law_things", "_law_most"] [])
    (F__law_answers : FnOk P w K mg base CX0 1 f__law_answers fd__law_answers ["_law_plan_here", "_law_lot_here"] (sp_lans K T)) (k__law_answers : PySem.W.keepIn K (.ref f__law_answers) = true) (m__law_answers : mg "_law_answers" = some (.ref f__law_answers)) (b__law_answers : Binds K fd__law_answers ["_law_plan_here", "_law_lot_here"] [])
    (F__law_slips : FnOk P w K mg base CX0 1 f__law_slips fd__law_slips ["_law_told", "_law_due"] (sp_lslips K T)) (k__law_slips : PySem.W.keepIn K (.ref f__law_slips) = true) (m__law_slips : mg "_law_slips" = some (.ref f__law_slips)) (b__law_slips : Binds K fd__law_slips ["_law_told", "_law_due"] [])
    (F__law_alike : FnOk P w K mg base CX0 5 f__law_alike fd__law_alike ["_law_found", "_law_due"] (sp_alike K T (Lk 5))) (k__law_alike : PySem.W.keepIn K (.ref f__law_alike) = true) (m__law_alike : mg "_law_alike" = some (.ref f__law_alike)) (b__law_alike : Binds K fd__law_alike ["_law_found", "_law_due"] [])
    (F_could : FnOk P w K mg base CX0 5 f_could fd_could ["plan", "told", "most", "slips"] (sp_could K T)) (k_could : PySem.W.keepIn K (.ref f_could) = true) (m_could : mg "could" = some (.ref f_could)) (bk_could : KBn K fd_could ["plan", "told", "most", "slips"] 3 ["slips"] g_could gV_could) (hg_could : ∀ vs zs, gV_could vs zs = vs ++ zs) (b_could : Binds K fd_could ["plan", "told", "most", "slips"] ds_could) (hd_could : Vals [V.int 0] ds_could)
    (F_sure : FnOk P w K mg base CX0 6 f_sure fd_sure ["plan", "told", "most", "slips"] (sp_sure K T)) (k_sure : PySem.W.keepIn K (.ref f_sure) = true) (m_sure : mg "sure" = some (.ref f_sure)) (bk_sure : KBn K fd_sure ["plan", "told", "most", "slips"] 3 ["slips"] g_sure gV_sure) (hg_sure : ∀ vs zs, gV_sure vs zs = vs ++ zs) (b_sure : Binds K fd_sure ["plan", "told", "most", "slips"] ds_sure) (hd_sure : Vals [V.int 0] ds_sure) :
    FnOk P w K mg base CX0 8 f fd ["_law_script"] (sp_law K T) := by
  refine Fn.ok sc_law (fun vs H Q E ⟨a, ns, e, _⟩ => by rw [e]; rfl) fun cdv A outer s H vs Q E' hr ⟨a, ns, e, hsc, hT, q⟩ => ?_
  subst e
  have hr__law_row : Room 1 (A.deeper (envOfC "law" (defScope s_law) s.heap.objs.size f cdv)) := hr.mono (by decide)
  have hr__law_plan : Room 3 (A.deeper (envOfC "law" (defScope s_law) s.heap.objs.size f cdv)) := hr.mono (by decide)
  have hr__law_taken : Room 1 (A.deeper (envOfC "law" (defScope s_law) s.heap.objs.size f cdv)) := hr.mono (by decide)
  have hr__law_said : Room 3 (A.deeper (envOfC "law" (defScope s_law) s.heap.objs.size f cdv)) := hr.mono (by decide)
  have hr__law_lots : Room 2 (A.deeper (envOfC "law" (defScope s_law) s.heap.objs.size f cdv)) := hr.mono (by decide)
  have hr__law_answers : Room 1 (A.deeper (envOfC "law" (defScope s_law) s.heap.objs.size f cdv)) := hr.mono (by decide)
  have hr__law_slips : Room 1 (A.deeper (envOfC "law" (defScope s_law) s.heap.objs.size f cdv)) := hr.mono (by decide)
  have hr__law_alike : Room 5 (A.deeper (envOfC "law" (defScope s_law) s.heap.objs.size f cdv)) := hr.mono (by decide)
  have hr_could : Room 5 (A.deeper (envOfC "law" (defScope s_law) s.heap.objs.size f cdv)) := hr.mono (by decide)
  have hr_sure : Room 6 (A.deeper (envOfC "law" (defScope s_law) s.heap.objs.size f cdv)) := hr.mono (by decide)
  refine ⟨_, (pss_cons (ps_set (i := 1) sc_law.nd rfl (by first | exact Or.inl rfl | exact Or.inr rfl) (pe_call F__law_row hr__law_row (by rfl) m__law_row k__law_row b__law_row .nil pass0 (pa_cons (pv 0) pa_nil)))
  (pss_cons (ps_for PassesOwn.never rfl (pi_range1 rfl X.range (pa_cons pe_int pa_nil)) (pg_name (i := 2) sc_law.nd rfl (by first | exact Or.inl rfl | exact Or.inr rfl)) (pss_cons (ps_par (i := 3) (j := 4) (by rfl) sc_law.nd rfl rfl (by decide) rfl rfl (pa_cons (pe_call F__law_plan hr__law_plan (by rfl) m__law_plan k__law_plan b__law_plan .nil pass0 (pa_cons (pv 1) (pa_cons pe_int (pa_cons pe_int pa_nil)))) (pa_cons (pe_call F__law_taken hr__law_taken (by rfl) m__law_taken k__law_taken b__law_taken .nil pass0 (pa_cons (pv 1) (pa_cons pe_int pa_nil))) pa_nil)) (by rfl))
  (pss_cons (ps_par (i := 5) (j := 6) (by rfl) sc_law.nd rfl rfl (by decide) rfl rfl (pa_cons (pe_call F__law_said hr__law_said (by rfl) m__law_said k__law_said b__law_said .nil pass0 (pa_cons (pv 1) (pa_cons (pv 3) pa_nil))) (pa_cons (pe_ix (r := rIxL K) ix_list (pe_lst (pa_cons pe_int (pa_cons pe_int (pa_cons pe_int (pa_cons pe_int pa_nil))))) (pe_call F__law_taken hr__law_taken (by rfl) m__law_taken k__law_taken b__law_taken .nil pass0 (pa_cons (pv 1) (pa_cons pe_int pa_nil))) (fun _ _ => rfl)) pa_nil)) (by rfl))
  (pss_cons (ps_set (i := 7) sc_law.nd rfl (by first | exact Or.inl rfl | exact Or.inr rfl) (pe_lst pa_nil))
  (pss_cons (ps_for PassesOwn.never rfl (pi_list (pe_call F__law_lots hr__law_lots (by rfl) m__law_lots k__law_lots b__law_lots .nil pass0 (pa_cons (pe_ix (r := rIxT K) ix_tup (pv 3) pe_int (fun _ _ => rfl)) (pa_cons (pv 4) pa_nil)))) (pg_name (i := 8) sc_law.nd rfl (by first | exact Or.inl rfl | exact Or.inr rfl)) (pss_cons (ps_set (i := 9) sc_law.nd rfl (by first | exact Or.inl rfl | exact Or.inr rfl) (pe_call F__law_slips hr__law_slips (by rfl) m__law_slips k__law_slips b__law_slips .nil pass0 (pa_cons (pv 5) (pa_cons (pe_call F__law_answers hr__law_answers (by rfl) m__law_answers k__law_answers b__law_answers .nil pass0 (pa_cons (pv 3) (pa_cons (pv 8) pa_nil))) pa_nil))))
  (pss_one (ps_set (i := 7) sc_law.nd rfl (by first | exact Or.inl rfl | exact Or.inr rfl) (pe_op (r := rCat) op_cat (pv 7) (pe_op (r := rRep) op_rep (pe_lst (pa_cons (pe_tup (pa_cons (pv 8) (pa_cons (pv 9) pa_nil))) pa_nil)) (pe_callTy (r := rIntQ) call_int1 (by rfl) X.int bt_int (pa_cons (pe_cmpR op_le (pv 9) (pv 6) (nomark _)) pa_nil))))))))
  (pss_cons (ps_set (i := 10) sc_law.nd rfl (by first | exact Or.inl rfl | exact Or.inr rfl) pe_non)
  (pss_cons (ps_if (pt_cmpR (r := rNeD K) (op_neD hr.units) (pv 7) (pe_lst pa_nil) (nomark _)) (pss_cons (ps_setLc (i := 12) (tt := tTest (tOp (rEqD K) (tLc (iList K (tVar 7)) (gTup K 2 (gCons (gName 8) (gCons (gName 9) gNil))) (tTest (tOp (rIn K true) (tVar 11) (tVar 8))) (tVar 8) [8, 9]) (tLst tNil))) (own := [("_law_thing", 11)]) rfl sc_law.nd rfl rfl (sw_true rfl rfl rfl (by decide +kernel)) (pi_range1 rfl X.range (pa_cons (pe_ix (r := rIxT K) ix_tup (pv 3) pe_int (fun _ _ => rfl)) pa_nil)) (blkOk_by (N := ["_law_script", "_law_row_here", "_law_turn", "_law_plan_here", "_law_most", "_law_told", "_law_far", "_law_some", "_law_lot_here", "_law_many", "_law_due", "_law_thing", "_law_bad", "_law_again", "_law_lists"]) (sc := defScope s_law) (by decide +kernel)) (fun _ _ _ _ _ => (pg_name (i := 11) sc_law.nd rfl (by first | exact Or.inl rfl | exact Or.inr rfl))) (fun _ _ _ _ _ => (pts_one (pt_cmpR (r := rEqD K) (op_eqD hr.units) (pe_lc (g := gTup K 2 (gCons (gName 8) (gCons (gName 9) gNil))) (wi := iList K (tVar 7)) (tt := tTest (tOp (rIn K true) (tVar 11) (tVar 8))) (own := [("_law_lot_here", 8), ("_law_many", 9)]) rfl sc_law.nd (pi_list (pv 7)) (by exact blkOk_by (by rfl)) (fun _ _ _ _ _ => (pg_tup rfl (pgs_cons (pg_name (i := 8) sc_law.nd rfl (by first | exact Or.inl rfl | exact Or.inr rfl)) (pgs_cons (pg_name (i := 9) sc_law.nd rfl (by first | exact Or.inl rfl | exact Or.inr rfl)) pgs_nil)))) (fun _ _ _ _ _ => (pts_one (pt_cmpR (r := rIn K true) op_notIn_seq (pv 11) (pv 8) (by rfl)))) (fun _ _ _ _ _ => (pv 8))) (pe_lst pa_nil) (nomark _)))) (fun _ _ _ _ _ => (pv 11)))
  (pss_one (ps_set (i := 10) sc_law.nd rfl (by first | exact Or.inl rfl | exact Or.inr rfl) (pe_tup (pa_cons (pv 12) (pa_cons (pe_lc (tt := tTest (tOp (rEqD K) (tLc (iList K (tVar 7)) (gTup K 2 (gCons (gName 8) (gCons (gName 9) gNil))) (tTest (tOp (rIn K false) (tVar 11) (tVar 8))) (tVar 8) [8, 9]) (tLst tNil))) (own := [("_law_thing", 11)]) rfl sc_law.nd (pi_range1 rfl X.range (pa_cons (pe_ix (r := rIxT K) ix_tup (pv 3) pe_int (fun _ _ => rfl)) pa_nil)) (blkOk_by (N := ["_law_script", "_law_row_here", "_law_turn", "_law_plan_here", "_law_most", "_law_told", "_law_far", "_law_some", "_law_lot_here", "_law_many", "_law_due", "_law_thing", "_law_bad", "_law_again", "_law_lists"]) (sc := defScope s_law) (by decide +kernel)) (fun _ _ _ _ _ => (pg_name (i := 11) sc_law.nd rfl (by first | exact Or.inl rfl | exact Or.inr rfl))) (fun _ _ _ _ _ => (pts_one (pt_cmpR (r := rEqD K) (op_eqD hr.units) (pe_lc (g := gTup K 2 (gCons (gName 8) (gCons (gName 9) gNil))) (wi := iList K (tVar 7)) (tt := tTest (tOp (rIn K false) (tVar 11) (tVar 8))) (own := [("_law_lot_here", 8), ("_law_many", 9)]) rfl sc_law.nd (pi_list (pv 7)) (by exact blkOk_by (by rfl)) (fun _ _ _ _ _ => (pg_tup rfl (pgs_cons (pg_name (i := 8) sc_law.nd rfl (by first | exact Or.inl rfl | exact Or.inr rfl)) (pgs_cons (pg_name (i := 9) sc_law.nd rfl (by first | exact Or.inl rfl | exact Or.inr rfl)) pgs_nil)))) (fun _ _ _ _ _ => (pts_one (pt_cmpR (r := rIn K false) op_in_seq (pv 11) (pv 8) (by rfl)))) (fun _ _ _ _ _ => (pv 8))) (pe_lst pa_nil) (nomark _)))) (fun _ _ _ _ _ => (pv 11))) pa_nil)))))) pss_nil)
  (pss_cons (ps_for PassesOwn.never rfl (pi_range1 rfl X.range (pa_cons pe_int pa_nil)) (pg_name (i := 13) sc_law.nd rfl (by first | exact Or.inl rfl | exact Or.inr rfl)) (pss_cons (ps_set (i := 14) sc_law.nd rfl (by first | exact Or.inl rfl | exact Or.inr rfl) (pe_lst (pa_cons (pe_callN F_could hr_could (by rfl) m_could k_could bk_could pass0 (pa_cons (pv 3) (pa_cons (pv 5) (pa_cons (pv 4) pa_nil))) (pk_cons (pv 6) pk_nil)) (pa_cons (pe_callN F_sure hr_sure (by rfl) m_sure k_sure bk_sure pass0 (pa_cons (pv 3) (pa_cons (pv 5) (pa_cons (pv 4) pa_nil))) (pk_cons (pv 6) pk_nil)) pa_nil))))
  (pss_cons (ps_if (pt_not (pt_val (pe_call F__law_alike hr__law_alike (by rfl) m__law_alike k__law_alike b__law_alike .nil pass0 (pa_cons (pv 14) (pa_cons (pe_lst (pa_cons (pv 7) (pa_cons (pv 10) pa_nil))) pa_nil))))) (pss_one (ps_ret pe_bl)) pss_nil)
  (pss_one (ps_expr (pe_bm PySem.F.plainAttrs_list PySem.F.slot_list_append PySem.F.type_list_append mt_append (pe_ix (r := rIxL K) ix_list (pv 14) pe_int (fun _ _ => rfl)) (pa_cons (pe_tup pa_nil) pa_nil)))))))
  (pss_cons (ps_set (i := 14) sc_law.nd rfl (by first | exact Or.inl rfl | exact Or.inr rfl) (pe_lst (pa_cons (pe_call F_could hr_could (by rfl) m_could k_could b_could hd_could pass0 (pa_cons (pv 3) (pa_cons (pv 5) (pa_cons (pv 4) pa_nil)))) (pa_cons (pe_call F_sure hr_sure (by rfl) m_sure k_sure b_sure hd_sure pass0 (pa_cons (pv 3) (pa_cons (pv 5) (pa_cons (pv 4) pa_nil)))) pa_nil))))
  (pss_one (ps_if (PW.pt (pw_and (pt_cmpR op_eq (pv 6) pe_int (nomark _)) (pw_and1 (pt_cmpR (r := rNeD K) (op_neD hr.units) (pv 14) (pe_lst (pa_cons (pv 7) (pa_cons (pv 10) pa_nil))) (nomark _))))) (pss_one (ps_ret pe_bl)) pss_nil)))))))))))
  (pss_one (ps_ret pe_bl)))), ?_⟩
  refine ⟨.ref a, rfl, a, ns, rfl, hsc, fun p m hp h0 h1 => ?_⟩
  obtain ⟨b, hb⟩ := scr_of hsc
  have jj : (rowW K T p a ns b).J (upd H p (.lst [.ref a, .int 0, .int 0, .int m])) := ⟨⟨0, 0, m, upd_same, Int.le_refl _, h0, h1⟩, hb.upd (.inl hp) (fun hb' z => by
    subst z
    rcases hb with ⟨_, h⟩ | ⟨h, _⟩
    · rw [hp] at h; cases h
    · rw [hb'] at h; cases h), tabs_upd hT (.inl hp)⟩
  have sl : Sl (rowW K T p a ns b) (upd H p (.lst [.ref a, .int 0, .int 0, .int m])) ((L2.start ["_law_script", "_law_row_here", "_law_turn", "_law_plan_here", "_law_most", "_law_told", "_law_far", "_law_some", "_law_lot_here", "_law_many", "_law_due", "_law_thing", "_law_bad", "_law_again", "_law_lists"] [V.ref a]).set 1 (some (.ref p))) (g15 none none none none none none none none none none none none none) := ⟨rfl, fun i o hi => by
    match i, hi with
    | 1, hi => cases hi; exact ⟨.ref p, rfl, .row rfl⟩
    | 0, hi => cases hi
    | 2, hi => cases hi
    | 3, hi => cases hi
    | 4, hi => cases hi
    | 5, hi => cases hi
    | 6, hi => cases hi
    | 7, hi => cases hi
    | 8, hi => cases hi
    | 9, hi => cases hi
    | 10, hi => cases hi
    | 11, hi => cases hi
    | 12, hi => cases hi
    | 13, hi => cases hi
    | 14, hi => cases hi
    | (k + 15), hi => simp at hi⟩
  unfold gName
  dsimp only
  refine s_enter (G := g15 none none none none none none none none none none none none none) (F := { rt := (· = .bool true) }) (W := rowW K T p a ns b) ?_ sl jj ⟨fun _ _ _ _ _ _ f => f.elim, fun v d H' _ _ dv e => ?_, fun _ _ _ _ _ _ _ _ _ f => f.elim, fun _ _ _ _ _ _ f => f.elim, fun _ _ _ _ _ _ f => f.elim⟩
  rotate_left
  · have e : d = .bool true := e
    subst e
    rw [dv.bool_inv]
    exact q H'
  clear sl jj hb hp h0 h1 hT hsc q
  refine s_seq (s_for (vs := [2]) (fun i G' => ∃ t p m td f s l mn du th b ag li, G' = g15 t p m td f s l mn du th b ag li) (i_rng1 (n := 3) (a_cons e_int a_nil) (by decide)) ⟨none, none, none, none, none, none, none, none, none, none, none, none, none, rfl⟩ ?_ ?_)
  rotate_left
  · rintro G' ⟨t, p, m, td, f, s, l, mn, du, th, b, ag, li, rfl⟩
    exact s_ret e_bl rfl
  rintro i d G' hi hd ⟨t, p, m, td, f, s, l, mn, du, th, b, ag, li, rfl⟩
  refine ⟨_, tg_name (by decide), ?_⟩
  refine s_seq (s_parP (R := fun os => ∃ (n : Nat) (ps : List PyData) (m : Nat), GoodP n ps ∧ n ≤ 7 ∧ ps.length ≤ 8 ∧ m < 4 ∧ os = [.dat (.tuple [.int n, .tuple ps]), .dat (.int m)]) ((a_consP (e_call (P := fun d => ∃ n ps, d = .tuple [.int (n : Nat), .tuple ps] ∧ GoodP n ps ∧ n ≤ 7 ∧ ps.length ≤ 8) (os := [.row, .dat (.int 7), .dat (.int 8)]) (a_row (a_cons e_int (a_cons e_int a_nil))) ⟨7, 8, rfl, by decide, by decide, by decide⟩ fun d p => p 7 8 rfl) (a_consP (e_taken (n := 4) (a_row (a_cons e_int a_nil)) (by decide) (by decide)) a_nil)).imp ?_) ?_)
  · rintro os ⟨d, r, rfl, ⟨n, ps, rfl, hg, hn, hl⟩, d2, r2, rfl, ⟨k, hk, rfl⟩, rfl⟩
    exact ⟨n, ps, k, hg, hn, hl, by omega, rfl⟩
  rintro os ⟨n, ps, m, hg, hn, hl, hm, rfl⟩
  refine ⟨_, _, rfl, ?_⟩
  refine s_seq (s_parP (R := fun os => ∃ (ts : List PyData) (sl : Nat), ts.length = ps.length ∧ (∀ x ∈ ts, isAnsD x = true) ∧ sl ≤ 16 ∧ os = [.dat (.tuple ts), .dat (.int sl)]) ((a_consP (e_call (P := fun d => ∃ ts, d = .tuple ts ∧ ts.length = ps.length ∧ ∀ x ∈ ts, isAnsD x = true) (os := [.row, .dat (.tuple [.int n, .tuple ps])]) (a_row (a_cons e_var a_nil)) ⟨n, ps, rfl, hg⟩ fun d p => p n ps rfl) (a_consP (e_ixLP (ds := [.int 0, .int 1, .int 2, .int 16]) (P := fun d => ∃ sl : Nat, sl ≤ 16 ∧ d = .int sl) (EL.is (el_lst (ds := [.int 0, .int 1, .int 2, .int 16]) (a_cons e_int (a_cons e_int (a_cons e_int (a_cons e_int a_nil)))) (by show 4 ≤ 100000; decide))) ((e_taken (n := 4) (a_row (a_cons e_int a_nil)) (by decide) (by decide)).imp fun d ⟨k, hk, e⟩ => ⟨k, by show k < 4; omega, e⟩) ?_) a_nil)).imp ?_) ?_)
  · intro d hd
    rcases List.mem_cons.mp hd with rfl | hd
    · exact ⟨0, by decide, rfl⟩
    rcases List.mem_cons.mp hd with rfl | hd
    · exact ⟨1, by decide, rfl⟩
    rcases List.mem_cons.mp hd with rfl | hd
    · exact ⟨2, by decide, rfl⟩
    rw [List.mem_singleton.mp hd]
    exact ⟨16, by decide, rfl⟩
  · rintro os ⟨d, r, rfl, ⟨ts, rfl, h1, h2⟩, d2, r2, rfl, ⟨sl, h3, rfl⟩, rfl⟩
    exact ⟨ts, sl, h1, h2, h3, rfl⟩
  rintro os ⟨ts, sl, hts, hta, hsl, rfl⟩
  refine ⟨_, _, rfl, ?_⟩
  have P0 : Pre n ps ts m sl := ⟨hg, hts, hta, by omega, hsl⟩
  have hlen := P0.len
  have hclen := couldL_len P0
  have psI : ∀ p ∈ ps, IntT p := fun p hp => probe_int (hg.all p hp) (by omega)
  refine s_seq (s_asg (EL.is (el_lst (ds := []) a_nil (by show 0 ≤ 100000; decide))) ?_)
  refine s_seqW (g15 none (some (.dat (.tuple [.int n, .tuple ps]))) (some (.dat (.int m))) (some (.dat (.tuple ts))) (some (.dat (.int sl))) (some (.dat (.list (couldL n ps ts m sl)))) none none none none none none none) (s_for (vs := [8]) (fun i G' => ∃ t l mn du th b ag li, G' = g15 t (some (.dat (.tuple [.int n, .tuple ps]))) (some (.dat (.int m))) (some (.dat (.tuple ts))) (some (.dat (.int sl))) (some (.dat (.list (accL n ps ts m sl i)))) l mn du th b ag li) (i_list (EL.is (el_callD (F := F_lots_up_to) (ds := [.int n, .int m]) (a_cons (e_ixT (i := 0) e_var e_int rfl) (a_cons e_var a_nil)) ⟨n, m, rfl, by omega, hm⟩))) ⟨_, _, _, _, _, _, _, _, rfl⟩ ?_ ?_) ?_
  · rintro i l G' hi hl' ⟨t', l0, mn', du', th', b', ag', li', rfl⟩
    have hl2 : (lotsN n m)[i]? = some l := hl'
    have lI : IntT l := P0.lotI (List.mem_of_getElem? hl2)
    have hacc : (accL n ps ts m sl i).length ≤ 1000 := Nat.le_trans accL_le (Nat.le_of_lt hlen)
    refine ⟨_, tg_name (by decide), ?_⟩
    refine s_seq (s_asg (d := .int (cnt ps ts l)) (e_callD (F := F_slips_in) (ds := [.tuple ts, .tuple (ps.map fun p => ansD p l)]) (a_cons e_var (a_cons (e_callD (F := F_lans) (ds := [.tuple [.int n, .tuple ps], l]) (a_cons e_var (a_cons e_var a_nil)) ⟨n, ps, l, rfl, by omega, psI, lI⟩) a_nil)) ⟨ts, _, rfl, by rw [List.length_map]; exact hts, by omega, hta, fun d hd => ?_⟩) ?_)
    · obtain ⟨p, hp, rfl⟩ := List.mem_map.mp hd
      exact ans_int (psI p hp).flat lI.flat
    refine s_asg (d := .list (accL n ps ts m sl (i + 1))) (E.is (EL.is (el_cat (ds := accL n ps ts m sl i) (es := if decide (cnt ps ts l ≤ sl) then [pairV ps ts l] else []) e_var (EL.is (el_rep01 (ds := [pairV ps ts l]) (b := decide (cnt ps ts l ≤ sl)) (EL.is (el_lst (ds := [pairV ps ts l]) (a_cons (e_tup (ds := [l, .int (cnt ps ts l)]) (a_cons e_var (a_cons e_var a_nil)) (by show 2 ≤ 100000; decide)) a_nil) (by show 1 ≤ 100000; decide))) (e_intB (a_cons (E.is (e_cmp (f := fun i j => decide (i ≤ j)) e_var e_var) (congrArg PyData.bool (decide_eq_decide.mpr (by omega)))) a_nil)) (by show 1 ≤ 100000; decide))) ?_)) (by rw [accL_step hl2])) ⟨_, _, _, _, _, _, _, _, rfl⟩
    split
    · show _ + 1 ≤ _; omega
    · show _ + 0 ≤ _; omega
  · rintro G' ⟨t', l0, mn', du', th', b', ag', li', rfl⟩
    have e : accL n ps ts m sl (F_lots_up_to [.int n, .int m]).length = couldL n ps ts m sl := accL_all
    rw [e]
    exact g15_le (.inl rfl) (.inr rfl) (.inr rfl) (.inr rfl) (.inr rfl) (.inr rfl) (.inl rfl) (.inl rfl) (.inl rfl) (.inl rfl) (.inl rfl) (.inl rfl) (.inl rfl)
  refine s_seq (s_asg e_non ?_)
  refine s_seqW (g15 none (some (.dat (.tuple [.int n, .tuple ps]))) (some (.dat (.int m))) (some (.dat (.tuple ts))) (some (.dat (.int sl))) (some (.dat (.list (couldL n ps ts m sl)))) none none (some (.dat (sureD n ps ts m sl))) none none none none) (s_if (t_B (e_neD (d := .list (couldL n ps ts m sl)) (e := .list []) e_var (EL.is (el_lst (ds := []) a_nil (by show 0 ≤ 100000; decide))) (shB P0) rfl)) (fun hne => ?_) (fun hne => s_next ?_)) ?_
  · have hemp : (lotsC n ps ts m sl).isEmpty = false := by
      rw [eqv_nilL, couldL_pair, List.isEmpty_map] at hne
      simpa using hne
    have hLC : ∀ l ∈ lotsC n ps ts m sl, ∃ xs, l = .tuple xs ∧ FlatT xs := fun l hl => P0.lot (List.mem_filter.mp hl).1
    have comp : ∀ (neg : Bool) (i : Nat) (G : Dv.Ctx), G[7]? = some (some (.dat (.list (couldL n ps ts m sl)))) → G[11]? = some (some (.dat (.int i))) → G.length = 15 → EL K T (tLc (iList K (tVar 7)) (gTup K 2 (gCons (gName 8) (gCons (gName 9) gNil))) (tTest (tOp (rIn K neg) (tVar 11) (tVar 8))) (tVar 8) [8, 9]) G (· = ((couldL n ps ts m sl).filter (fIn neg (.int i))).map fstD) := fun neg i G g7 g11 gl => by
      refine el_lcD (vs := [8, 9]) (fIn neg (.int i)) fstD (i_list (e_var g7)) (fun e he => ?_) (by omega)
      obtain ⟨l, hl, rfl⟩ := List.mem_map.mp (show e ∈ (lotsC n ps ts m sl).map (pairV ps ts) from he)
      obtain ⟨xs, rfl, hx, _⟩ := P0.lotI (List.mem_filter.mp hl).1
      have z11 : ((((wipeG G [8, 9]).set 8 (some (.dat (.tuple xs)))).set 9 (some (.dat (.int (cnt ps ts (.tuple xs)))))))[11]? = some (some (.dat (.int i))) := by
        rw [List.getElem?_set_ne (by decide), List.getElem?_set_ne (by decide)]
        show ((((G.set 9 none)).set 8 none))[11]? = _
        rw [List.getElem?_set_ne (by decide), List.getElem?_set_ne (by decide)]
        exact g11
      have z8 : ((((wipeG G [8, 9]).set 8 (some (.dat (.tuple xs)))).set 9 (some (.dat (.int (cnt ps ts (.tuple xs)))))))[8]? = some (some (.dat (.tuple xs))) := by
        rw [List.getElem?_set_ne (by decide)]
        refine List.getElem?_set_self ?_
        show 8 < ((((G.set 9 none)).set 8 none)).length
        rw [List.length_set, List.length_set, gl]
        decide
      exact ⟨_, tg_pair (by decide) (by decide), t_B (e_inSeq (e_var z11) (e_var z8) (.inr rfl) rfl hx.flat), fun _ => e_var z8⟩
    have shI : ∀ (neg : Bool) (i : Nat), SeqAt.shaped (.list (((couldL n ps ts m sl).filter (fIn neg (.int i))).map fstD)) = true := fun neg i => by
      refine (sh_lst (k := 1) fun x hx => ?_).shaped (by decide)
      obtain ⟨e, he, rfl⟩ := List.mem_map.mp hx
      obtain ⟨l, hl, rfl⟩ := List.mem_map.mp (show e ∈ (lotsC n ps ts m sl).map (pairV ps ts) from (List.mem_filter.mp he).1)
      obtain ⟨xs, rfl, hx, _⟩ := P0.lotI (List.mem_filter.mp hl).1
      exact sh_tup hx.sh
    have c1 : ∀ (G : Dv.Ctx), G[3]? = some (some (.dat (.tuple [.int n, .tuple ps]))) → G[7]? = some (some (.dat (.list (couldL n ps ts m sl)))) → G.length = 15 → E K T (tLc (iRng1 (tCons (tOp (rIxT K) (tVar 3) (tC (.int 0))) tNil)) (gName 11) (tTest (tOp (rEqD K) (tLc (iList K (tVar 7)) (gTup K 2 (gCons (gName 8) (gCons (gName 9) gNil))) (tTest (tOp (rIn K true) (tVar 11) (tVar 8))) (tVar 8) [8, 9]) (tLst tNil))) (tVar 11) [11]) G (· = .list (inAll n (lotsC n ps ts m sl))) := fun G g3 g7 gl => by
      refine E.is (EL.is (el_lcD (vs := [11]) (fun d => decide (haveN d (lotsC n ps ts m sl) = (lotsC n ps ts m sl).length)) (fun d => d) (i_rngN (n := n) (a_cons (e_ixT (i := 0) (e_var g3) e_int rfl) a_nil) (by omega)) (fun d hd => ?_) (by rw [rng_length]; omega))) (by rw [List.map_id']; rfl)
      obtain ⟨i, hi, rfl⟩ := mem_rng hd
      have z7 : ((wipeG G [11]).set 11 (some (.dat (.int i))))[7]? = some (some (.dat (.list (couldL n ps ts m sl)))) := by
        rw [List.getElem?_set_ne (by decide)]
        show (G.set 11 none)[7]? = _
        rw [List.getElem?_set_ne (by decide)]
        exact g7
      have zl : ((wipeG G [11]).set 11 (some (.dat (.int i)))).length = 15 := by
        rw [List.length_set]
        show (G.set 11 none).length = 15
        rw [List.length_set, gl]
      have z11 : ((wipeG G [11]).set 11 (some (Ob.dat (.int i))))[11]? = some (some (.dat (.int i))) := by
        refine List.getElem?_set_self ?_
        rw [List.length_set] at zl
        rw [zl]; decide
      exact ⟨_, tg_name (by decide), ET.is (t_B (e_eqD (EL.is (comp true i _ z7 z11 zl)) (EL.is (el_lst (ds := []) a_nil (by show 0 ≤ 100000; decide))) (shI true i) rfl)) (by rw [eqv_nilL, couldL_pair]; exact in_all_eq _ hLC), fun _ => e_var z11⟩
    have c2 : ∀ (G : Dv.Ctx), G[3]? = some (some (.dat (.tuple [.int n, .tuple ps]))) → G[7]? = some (some (.dat (.list (couldL n ps ts m sl)))) → G.length = 15 → E K T (tLc (iRng1 (tCons (tOp (rIxT K) (tVar 3) (tC (.int 0))) tNil)) (gName 11) (tTest (tOp (rEqD K) (tLc (iList K (tVar 7)) (gTup K 2 (gCons (gName 8) (gCons (gName 9) gNil))) (tTest (tOp (rIn K false) (tVar 11) (tVar 8))) (tVar 8) [8, 9]) (tLst tNil))) (tVar 11) [11]) G (· = .list (inNone n (lotsC n ps ts m sl))) := fun G g3 g7 gl => by
      refine E.is (EL.is (el_lcD (vs := [11]) (fun d => decide (haveN d (lotsC n ps ts m sl) = 0)) (fun d => d) (i_rngN (n := n) (a_cons (e_ixT (i := 0) (e_var g3) e_int rfl) a_nil) (by omega)) (fun d hd => ?_) (by rw [rng_length]; omega))) (by rw [List.map_id']; rfl)
      obtain ⟨i, hi, rfl⟩ := mem_rng hd
      have z7 : ((wipeG G [11]).set 11 (some (.dat (.int i))))[7]? = some (some (.dat (.list (couldL n ps ts m sl)))) := by
        rw [List.getElem?_set_ne (by decide)]
        show (G.set 11 none)[7]? = _
        rw [List.getElem?_set_ne (by decide)]
        exact g7
      have zl : ((wipeG G [11]).set 11 (some (.dat (.int i)))).length = 15 := by
        rw [List.length_set]
        show (G.set 11 none).length = 15
        rw [List.length_set, gl]
      have z11 : ((wipeG G [11]).set 11 (some (Ob.dat (.int i))))[11]? = some (some (.dat (.int i))) := by
        refine List.getElem?_set_self ?_
        rw [List.length_set] at zl
        rw [zl]; decide
      exact ⟨_, tg_name (by decide), ET.is (t_B (e_eqD (EL.is (comp false i _ z7 z11 zl)) (EL.is (el_lst (ds := []) a_nil (by show 0 ≤ 100000; decide))) (shI false i) rfl)) (by rw [eqv_nilL, couldL_pair]; exact in_none_eq _ hLC), fun _ => e_var z11⟩
    refine s_seq (s_asg (c1 _ rfl rfl rfl) ?_)
    refine s_asg (d := sureD n ps ts m sl) (E.is (e_tup (ds := [.list (inAll n (lotsC n ps ts m sl)), .list (inNone n (lotsC n ps ts m sl))]) (a_cons e_var (a_cons (c2 _ rfl rfl rfl) a_nil)) (by show 2 ≤ 100000; decide)) ?_) (g15_le (.inl rfl) (.inr rfl) (.inr rfl) (.inr rfl) (.inr rfl) (.inr rfl) (.inl rfl) (.inl rfl) (.inr rfl) (.inl rfl) (.inl rfl) (.inl rfl) (.inl rfl))
    unfold sureD
    rw [if_neg (by rw [hemp]; decide)]
  · have hemp : (lotsC n ps ts m sl).isEmpty = true := by
      rw [eqv_nilL, couldL_pair, List.isEmpty_map] at hne
      simpa using hne
    have e : sureD n ps ts m sl = .none := by
      unfold sureD
      rw [if_pos hemp]
    rw [e]
    exact g15_le (.inl rfl) (.inr rfl) (.inr rfl) (.inr rfl) (.inr rfl) (.inr rfl) (.inl rfl) (.inl rfl) (.inr rfl) (.inl rfl) (.inl rfl) (.inl rfl) (.inl rfl)
  refine s_seqW (g15 none (some (.dat (.tuple [.int n, .tuple ps]))) (some (.dat (.int m))) (some (.dat (.tuple ts))) (some (.dat (.int sl))) (some (.dat (.list (couldL n ps ts m sl)))) none none (some (.dat (sureD n ps ts m sl))) none none none none) (s_for (vs := [13]) (fun i G' => ∃ ag li, G' = g15 none (some (.dat (.tuple [.int n, .tuple ps]))) (some (.dat (.int m))) (some (.dat (.tuple ts))) (some (.dat (.int sl))) (some (.dat (.list (couldL n ps ts m sl)))) none none (some (.dat (sureD n ps ts m sl))) none none ag li) (i_rng1 (n := 2) (a_cons e_int a_nil) (by decide)) ⟨_, _, rfl⟩ ?_ ?_) ?_
  · rintro i d G' hi hd ⟨ag', li', rfl⟩
    refine ⟨_, tg_name (by decide), ?_⟩
    exact s_lists (k := 14) (cs := couldL n ps ts m sl) (x := sureD n ps ts m sl) (by show 14 < 15; decide) (el_callND (F := K03.F_could) (ds := [.tuple [.int n, .tuple ps], .tuple ts, .int m]) (es := [.int sl]) (a_cons e_var (a_cons e_var (a_cons e_var a_nil))) (a_cons e_var a_nil) rfl rfl hg_could ⟨n, ps, ts, m, sl, rfl, P0⟩)
      (e_callND (F := K03.F_sure) (ds := [.tuple [.int n, .tuple ps], .tuple ts, .int m]) (es := [.int sl]) (a_cons e_var (a_cons e_var (a_cons e_var a_nil))) (a_cons e_var a_nil) rfl rfl hg_sure ⟨n, ps, ts, m, sl, rfl, P0⟩)
      (t_B (b := true) (e_callD (F := F_yes) (ds := [.list [.list (couldL n ps ts m sl), sureD n ps ts m sl], .list [.list (couldL n ps ts m sl), sureD n ps ts m sl]]) (a_cons e_var (a_cons (EL.is (el_lst (ds := [.list (couldL n ps ts m sl), sureD n ps ts m sl]) (a_cons e_var (a_cons e_var a_nil)) (by show 2 ≤ 100000; decide))) a_nil)) ⟨_, rfl, P0.lk⟩)) (Nat.le_of_lt hclen) ⟨_, _, rfl⟩
  · rintro G' ⟨ag', li', rfl⟩
    exact g15_le (.inl rfl) (.inr rfl) (.inr rfl) (.inr rfl) (.inr rfl) (.inr rfl) (.inl rfl) (.inl rfl) (.inr rfl) (.inl rfl) (.inl rfl) (.inl rfl) (.inl rfl)
  have P1 : Pre n ps ts m 0 := ⟨hg, hts, hta, by omega, by omega⟩
  refine s_seq (s_asg (d := .list [.list (couldL n ps ts m 0), sureD n ps ts m 0]) (EL.is (el_lst (ds := [.list (couldL n ps ts m 0), sureD n ps ts m 0]) (a_cons (EL.is (el_callDd (F := K03.F_could) (ds := [.tuple [.int n, .tuple ps], .tuple ts, .int m]) (es := [.int 0]) (a_cons e_var (a_cons e_var (a_cons e_var a_nil))) (fun W H => .cons (.dat (.int 0)) .nil) ⟨n, ps, ts, m, 0, rfl, P1⟩)) (a_cons (e_callDd (F := K03.F_sure) (ds := [.tuple [.int n, .tuple ps], .tuple ts, .int m]) (es := [.int 0]) (a_cons e_var (a_cons e_var (a_cons e_var a_nil))) (fun W H => .cons (.dat (.int 0)) .nil) ⟨n, ps, ts, m, 0, rfl, P1⟩) a_nil)) (by show 2 ≤ 100000; decide))) ?_)
  refine s_if (t_and (a := eqD (.int sl) (.int 0)) (b := !PyData.eqv (.list [.list (couldL n ps ts m 0), sureD n ps ts m 0]) (.list [.list (couldL n ps ts m sl), sureD n ps ts m sl])) (t_B (e_eq e_var e_int rfl)) fun _ => t_B (e_neD e_var (EL.is (el_lst (ds := [.list (couldL n ps ts m sl), sureD n ps ts m sl]) (a_cons e_var (a_cons e_var a_nil)) (by show 2 ≤ 100000; decide))) (P1.sh2.shaped (by decide)) (P0.sh2.shaped (by decide)))) (fun h => ?_) (fun h => s_next ⟨_, _, _, _, _, _, _, _, _, _, _, _, _, rfl⟩)
  rw [Bool.and_eq_true] at h
  have h0 : (sl : Int) = 0 := of_decide_eq_true h.1
  have h0 : sl = 0 := by omega
  subst h0
  have h2 := h.2
  rw [P0.sh2.refl] at h2
  cases h2
end
end K03

namespace K03
open PySem PySem.Spec L2 Dv DvC
open PyProof.Rows hiding St
section
variable {P : Program} {w : World} {K : PySem.W.Frag} {mg : Str → Option Value} {base : Heap} {T : List (Addr × Str)}
def Tof (Pt : Addr) : List (Addr × Str) := [(Pt, ((Str.ofString "_law_lots" ++ Str.ofString ".<locals>.") ++ Str.ofString "<lambda>"))]
theorem vals_app {a c : List V} {b d : List Value} (h : Vals a b) (h2 : Vals c d) : Vals (a ++ c) (b ++ d) := pair_app h h2
theorem all_mk {l : PySem.W.OpenLaw} {w : World} {K : PySem.W.Frag} {h : Heap} {mg : Str → Option Value} {fa c Pt : Addr} (X0 : K.In h) (G : h.Ns mainGlobals mg) (hfa : mg "law" = some (.ref fa))
    {f_is_within : Addr} {od_is_within an_is_within : Option Addr} {sl_is_within : Array (Option Value)} {oc_is_within dc_is_within pm_is_within ct_is_within : Value} {kV_is_within : Value} {cd_is_within : Value}
    (a_is_within : PySem.W.nsIn K mainGlobals "is_within" = some (some (.ref f_is_within))) (l_is_within : K.lookup f_is_within = some ⟨oc_is_within, od_is_within, .func (PySem.W.fnOf "is_within" "is_within" (defArgs s_is_within) (defBody s_is_within) (defScope s_is_within) .none kV_is_within dc_is_within pm_is_within an_is_within cd_is_within ct_is_within), sl_is_within⟩) (c_is_within : PySem.W.codeIn K cd_is_within "is_within" = true) (k_is_within : PySem.W.keepIn K (.ref f_is_within) = true)
    {f_is_lot : Addr} {od_is_lot an_is_lot : Option Addr} {sl_is_lot : Array (Option Value)} {oc_is_lot dc_is_lot pm_is_lot ct_is_lot : Value} {kV_is_lot : Value} {cd_is_lot : Value}
    (a_is_lot : PySem.W.nsIn K mainGlobals "is_lot" = some (some (.ref f_is_lot))) (l_is_lot : K.lookup f_is_lot = some ⟨oc_is_lot, od_is_lot, .func (PySem.W.fnOf "is_lot" "is_lot" (defArgs s_is_lot) (defBody s_is_lot) (defScope s_is_lot) .none kV_is_lot dc_is_lot pm_is_lot an_is_lot cd_is_lot ct_is_lot), sl_is_lot⟩) (c_is_lot : PySem.W.codeIn K cd_is_lot "is_lot" = true) (k_is_lot : PySem.W.keepIn K (.ref f_is_lot) = true)
    {f_is_probe : Addr} {od_is_probe an_is_probe : Option Addr} {sl_is_probe : Array (Option Value)} {oc_is_probe dc_is_probe pm_is_probe ct_is_probe : Value} {kV_is_probe : Value} {cd_is_probe : Value}
    (a_is_probe : PySem.W.nsIn K mainGlobals "is_probe" = some (some (.ref f_is_probe))) (l_is_probe : K.lookup f_is_probe = some ⟨oc_is_probe, od_is_probe, .func (PySem.W.fnOf "is_probe" "is_probe" (defArgs s_is_probe) (defBody s_is_probe) (defScope s_is_probe) .none kV_is_probe dc_is_probe pm_is_probe an_is_probe cd_is_probe ct_is_probe), sl_is_probe⟩) (c_is_probe : PySem.W.codeIn K cd_is_probe "is_probe" = true) (k_is_probe : PySem.W.keepIn K (.ref f_is_probe) = true)
    {f_is_answer : Addr} {od_is_answer an_is_answer : Option Addr} {sl_is_answer : Array (Option Value)} {oc_is_answer dc_is_answer pm_is_answer ct_is_answer : Value} {kV_is_answer : Value} {cd_is_answer : Value}
    (a_is_answer : PySem.W.nsIn K mainGlobals "is_answer" = some (some (.ref f_is_answer))) (l_is_answer : K.lookup f_is_answer = some ⟨oc_is_answer, od_is_answer, .func (PySem.W.fnOf "is_answer" "is_answer" (defArgs s_is_answer) (defBody s_is_answer) (defScope s_is_answer) .none kV_is_answer dc_is_answer pm_is_answer an_is_answer cd_is_answer ct_is_answer), sl_is_answer⟩) (c_is_answer : PySem.W.codeIn K cd_is_answer "is_answer" = true) (k_is_answer : PySem.W.keepIn K (.ref f_is_answer) = true)
    {f_check_plan : Addr} {od_check_plan an_check_plan : Option Addr} {sl_check_plan : Array (Option Value)} {oc_check_plan dc_check_plan pm_check_plan ct_check_plan : Value} {kV_check_plan : Value} {cd_check_plan : Value}
    (a_check_plan : PySem.W.nsIn K mainGlobals "check_plan" = some (some (.ref f_check_plan))) (l_check_plan : K.lookup f_check_plan = some ⟨oc_check_plan, od_check_plan, .func (PySem.W.fnOf "check_plan" "check_plan" (defArgs s_check_plan) (defBody s_check_plan) (defScope s_check_plan) .none kV_check_plan dc_check_plan pm_check_plan an_check_plan cd_check_plan ct_check_plan), sl_check_plan⟩) (c_check_plan : PySem.W.codeIn K cd_check_plan "check_plan" = true) (k_check_plan : PySem.W.keepIn K (.ref f_check_plan) = true)
    {f_first_wrong : Addr} {od_first_wrong an_first_wrong : Option Addr} {sl_first_wrong : Array (Option Value)} {oc_first_wrong dc_first_wrong pm_first_wrong ct_first_wrong : Value} {kV_first_wrong : Value} {cd_first_wrong : Value}
    (a_first_wrong : PySem.W.nsIn K mainGlobals "first_wrong" = some (some (.ref f_first_wrong))) (l_first_wrong : K.lookup f_first_wrong = some ⟨oc_first_wrong, od_first_wrong, .func (PySem.W.fnOf "first_wrong" "first_wrong" (defArgs s_first_wrong) (defBody s_first_wrong) (defScope s_first_wrong) .none kV_first_wrong dc_first_wrong pm_first_wrong an_first_wrong cd_first_wrong ct_first_wrong), sl_first_wrong⟩) (c_first_wrong : PySem.W.codeIn K cd_first_wrong "first_wrong" = true) (k_first_wrong : PySem.W.keepIn K (.ref f_first_wrong) = true)
    {f_check_answers : Addr} {od_check_answers an_check_answers : Option Addr} {sl_check_answers : Array (Option Value)} {oc_check_answers dc_check_answers pm_check_answers ct_check_answers : Value} {kV_check_answers : Value} {cd_check_answers : Value}
    (a_check_answers : PySem.W.nsIn K mainGlobals "check_answers" = some (some (.ref f_check_answers))) (l_check_answers : K.lookup f_check_answers = some ⟨oc_check_answers, od_check_answers, .func (PySem.W.fnOf "check_answers" "check_answers" (defArgs s_check_answers) (defBody s_check_answers) (defScope s_check_answers) .none kV_check_answers dc_check_answers pm_check_answers an_check_answers cd_check_answers ct_check_answers), sl_check_answers⟩) (c_check_answers : PySem.W.codeIn K cd_check_answers "check_answers" = true) (k_check_answers : PySem.W.keepIn K (.ref f_check_answers) = true)
    {f_check_count : Addr} {od_check_count an_check_count : Option Addr} {sl_check_count : Array (Option Value)} {oc_check_count dc_check_count pm_check_count ct_check_count : Value} {kV_check_count : Value} {cd_check_count : Value}
    (a_check_count : PySem.W.nsIn K mainGlobals "check_count" = some (some (.ref f_check_count))) (l_check_count : K.lookup f_check_count = some ⟨oc_check_count, od_check_count, .func (PySem.W.fnOf "check_count" "check_count" (defArgs s_check_count) (defBody s_check_count) (defScope s_check_count) .none kV_check_count dc_check_count pm_check_count an_check_count cd_check_count ct_check_count), sl_check_count⟩) (c_check_count : PySem.W.codeIn K cd_check_count "check_count" = true) (k_check_count : PySem.W.keepIn K (.ref f_check_count) = true)
    {f_check_most : Addr} {od_check_most an_check_most : Option Addr} {sl_check_most : Array (Option Value)} {oc_check_most dc_check_most pm_check_most ct_check_most : Value} {kV_check_most : Value} {cd_check_most : Value}
    (a_check_most : PySem.W.nsIn K mainGlobals "check_most" = some (some (.ref f_check_most))) (l_check_most : K.lookup f_check_most = some ⟨oc_check_most, od_check_most, .func (PySem.W.fnOf "check_most" "check_most" (defArgs s_check_most) (defBody s_check_most) (defScope s_check_most) .none kV_check_most dc_check_most pm_check_most an_check_most cd_check_most ct_check_most), sl_check_most⟩) (c_check_most : PySem.W.codeIn K cd_check_most "check_most" = true) (k_check_most : PySem.W.keepIn K (.ref f_check_most) = true)
    {f_check_slips : Addr} {od_check_slips an_check_slips : Option Addr} {sl_check_slips : Array (Option Value)} {oc_check_slips dc_check_slips pm_check_slips ct_check_slips : Value} {kV_check_slips : Value} {cd_check_slips : Value}
    (a_check_slips : PySem.W.nsIn K mainGlobals "check_slips" = some (some (.ref f_check_slips))) (l_check_slips : K.lookup f_check_slips = some ⟨oc_check_slips, od_check_slips, .func (PySem.W.fnOf "check_slips" "check_slips" (defArgs s_check_slips) (defBody s_check_slips) (defScope s_check_slips) .none kV_check_slips dc_check_slips pm_check_slips an_check_slips cd_check_slips ct_check_slips), sl_check_slips⟩) (c_check_slips : PySem.W.codeIn K cd_check_slips "check_slips" = true) (k_check_slips : PySem.W.keepIn K (.ref f_check_slips) = true)
    {f_lots_up_to : Addr} {od_lots_up_to an_lots_up_to : Option Addr} {sl_lots_up_to : Array (Option Value)} {oc_lots_up_to dc_lots_up_to pm_lots_up_to ct_lots_up_to : Value} {kV_lots_up_to : Value} {cd_lots_up_to : Value}
    (a_lots_up_to : PySem.W.nsIn K mainGlobals "lots_up_to" = some (some (.ref f_lots_up_to))) (l_lots_up_to : K.lookup f_lots_up_to = some ⟨oc_lots_up_to, od_lots_up_to, .func (PySem.W.fnOf "lots_up_to" "lots_up_to" (defArgs s_lots_up_to) (defBody s_lots_up_to) (defScope s_lots_up_to) .none kV_lots_up_to dc_lots_up_to pm_lots_up_to an_lots_up_to cd_lots_up_to ct_lots_up_to), sl_lots_up_to⟩) (c_lots_up_to : PySem.W.codeIn K cd_lots_up_to "lots_up_to" = true) (k_lots_up_to : PySem.W.keepIn K (.ref f_lots_up_to) = true)
    {f_answer_of : Addr} {od_answer_of an_answer_of : Option Addr} {sl_answer_of : Array (Option Value)} {oc_answer_of dc_answer_of pm_answer_of ct_answer_of : Value} {kV_answer_of : Value} {cd_answer_of : Value}
    (a_answer_of : PySem.W.nsIn K mainGlobals "answer_of" = some (some (.ref f_answer_of))) (l_answer_of : K.lookup f_answer_of = some ⟨oc_answer_of, od_answer_of, .func (PySem.W.fnOf "answer_of" "answer_of" (defArgs s_answer_of) (defBody s_answer_of) (defScope s_answer_of) .none kV_answer_of dc_answer_of pm_answer_of an_answer_of cd_answer_of ct_answer_of), sl_answer_of⟩) (c_answer_of : PySem.W.codeIn K cd_answer_of "answer_of" = true) (k_answer_of : PySem.W.keepIn K (.ref f_answer_of) = true)
    {f_answers_of : Addr} {od_answers_of an_answers_of : Option Addr} {sl_answers_of : Array (Option Value)} {oc_answers_of dc_answers_of pm_answers_of ct_answers_of : Value} {kV_answers_of : Value} {cd_answers_of : Value}
    (a_answers_of : PySem.W.nsIn K mainGlobals "answers_of" = some (some (.ref f_answers_of))) (l_answers_of : K.lookup f_answers_of = some ⟨oc_answers_of, od_answers_of, .func (PySem.W.fnOf "answers_of" "answers_of" (defArgs s_answers_of) (defBody s_answers_of) (defScope s_answers_of) .none kV_answers_of dc_answers_of pm_answers_of an_answers_of cd_answers_of ct_answers_of), sl_answers_of⟩) (c_answers_of : PySem.W.codeIn K cd_answers_of "answers_of" = true) (k_answers_of : PySem.W.keepIn K (.ref f_answers_of) = true)
    {f_slips_in : Addr} {od_slips_in an_slips_in : Option Addr} {sl_slips_in : Array (Option Value)} {oc_slips_in dc_slips_in pm_slips_in ct_slips_in : Value} {kV_slips_in : Value} {cd_slips_in : Value}
    (a_slips_in : PySem.W.nsIn K mainGlobals "slips_in" = some (some (.ref f_slips_in))) (l_slips_in : K.lookup f_slips_in = some ⟨oc_slips_in, od_slips_in, .func (PySem.W.fnOf "slips_in" "slips_in" (defArgs s_slips_in) (defBody s_slips_in) (defScope s_slips_in) .none kV_slips_in dc_slips_in pm_slips_in an_slips_in cd_slips_in ct_slips_in), sl_slips_in⟩) (c_slips_in : PySem.W.codeIn K cd_slips_in "slips_in" = true) (k_slips_in : PySem.W.keepIn K (.ref f_slips_in) = true)
    {f_could : Addr} {od_could an_could : Option Addr} {sl_could : Array (Option Value)} {oc_could dc_could pm_could ct_could : Value} {D_could : Addr} {t_could : Tok} {cd_could : Value}
    (a_could : PySem.W.nsIn K mainGlobals "could" = some (some (.ref f_could))) (l_could : K.lookup f_could = some ⟨oc_could, od_could, .func (PySem.W.fnOf "could" "could" (defArgs s_could) (defBody s_could) (defScope s_could) .none (.ref D_could) dc_could pm_could an_could cd_could ct_could), sl_could⟩) (c_could : PySem.W.codeIn K cd_could "could" = true) (k_could : PySem.W.keepIn K (.ref f_could) = true)
    (n_could : PySem.W.nsIn K D_could "slips" = some (some (.int 0 t_could)))
    {f_sure : Addr} {od_sure an_sure : Option Addr} {sl_sure : Array (Option Value)} {oc_sure dc_sure pm_sure ct_sure : Value} {D_sure : Addr} {t_sure : Tok} {cd_sure : Value}
    (a_sure : PySem.W.nsIn K mainGlobals "sure" = some (some (.ref f_sure))) (l_sure : K.lookup f_sure = some ⟨oc_sure, od_sure, .func (PySem.W.fnOf "sure" "sure" (defArgs s_sure) (defBody s_sure) (defScope s_sure) .none (.ref D_sure) dc_sure pm_sure an_sure cd_sure ct_sure), sl_sure⟩) (c_sure : PySem.W.codeIn K cd_sure "sure" = true) (k_sure : PySem.W.keepIn K (.ref f_sure) = true)
    (n_sure : PySem.W.nsIn K D_sure "slips" = some (some (.int 0 t_sure)))
    {f_how_many_have : Addr} {od_how_many_have an_how_many_have : Option Addr} {sl_how_many_have : Array (Option Value)} {oc_how_many_have dc_how_many_have pm_how_many_have ct_how_many_have : Value} {kV_how_many_have : Value} {cd_how_many_have : Value}
    (a_how_many_have : PySem.W.nsIn K mainGlobals "how_many_have" = some (some (.ref f_how_many_have))) (l_how_many_have : K.lookup f_how_many_have = some ⟨oc_how_many_have, od_how_many_have, .func (PySem.W.fnOf "how_many_have" "how_many_have" (defArgs s_how_many_have) (defBody s_how_many_have) (defScope s_how_many_have) .none kV_how_many_have dc_how_many_have pm_how_many_have an_how_many_have cd_how_many_have ct_how_many_have), sl_how_many_have⟩) (c_how_many_have : PySem.W.codeIn K cd_how_many_have "how_many_have" = true) (k_how_many_have : PySem.W.keepIn K (.ref f_how_many_have) = true)
    {f__law_row : Addr} {od__law_row an__law_row : Option Addr} {sl__law_row : Array (Option Value)} {oc__law_row dc__law_row pm__law_row ct__law_row : Value} {kV__law_row : Value} {cd__law_row : Value}
    (a__law_row : PySem.W.nsIn K mainGlobals "_law_row" = some (some (.ref f__law_row))) (l__law_row : K.lookup f__law_row = some ⟨oc__law_row, od__law_row, .func (PySem.W.fnOf "_law_row" "_law_row" (defArgs s__law_row) (defBody s__law_row) (defScope s__law_row) .none kV__law_row dc__law_row pm__law_row an__law_row cd__law_row ct__law_row), sl__law_row⟩) (c__law_row : PySem.W.codeIn K cd__law_row "_law_row" = true) (k__law_row : PySem.W.keepIn K (.ref f__law_row) = true)
    {f__law_taken : Addr} {od__law_taken an__law_taken : Option Addr} {sl__law_taken : Array (Option Value)} {oc__law_taken dc__law_taken pm__law_taken ct__law_taken : Value} {kV__law_taken : Value} {cd__law_taken : Value}
    (a__law_taken : PySem.W.nsIn K mainGlobals "_law_taken" = some (some (.ref f__law_taken))) (l__law_taken : K.lookup f__law_taken = some ⟨oc__law_taken, od__law_taken, .func (PySem.W.fnOf "_law_taken" "_law_taken" (defArgs s__law_taken) (defBody s__law_taken) (defScope s__law_taken) .none kV__law_taken dc__law_taken pm__law_taken an__law_taken cd__law_taken ct__law_taken), sl__law_taken⟩) (c__law_taken : PySem.W.codeIn K cd__law_taken "_law_taken" = true) (k__law_taken : PySem.W.keepIn K (.ref f__law_taken) = true)
    {f__law_lot : Addr} {od__law_lot an__law_lot : Option Addr} {sl__law_lot : Array (Option Value)} {oc__law_lot dc__law_lot pm__law_lot ct__law_lot : Value} {kV__law_lot : Value} {cd__law_lot : Value}
    (a__law_lot : PySem.W.nsIn K mainGlobals "_law_lot" = some (some (.ref f__law_lot))) (l__law_lot : K.lookup f__law_lot = some ⟨oc__law_lot, od__law_lot, .func (PySem.W.fnOf "_law_lot" "_law_lot" (defArgs s__law_lot) (defBody s__law_lot) (defScope s__law_lot) .none kV__law_lot dc__law_lot pm__law_lot an__law_lot cd__law_lot ct__law_lot), sl__law_lot⟩) (c__law_lot : PySem.W.codeIn K cd__law_lot "_law_lot" = true) (k__law_lot : PySem.W.keepIn K (.ref f__law_lot) = true)
    {f__law_plan : Addr} {od__law_plan an__law_plan : Option Addr} {sl__law_plan : Array (Option Value)} {oc__law_plan dc__law_plan pm__law_plan ct__law_plan : Value} {kV__law_plan : Value} {cd__law_plan : Value}
    (a__law_plan : PySem.W.nsIn K mainGlobals "_law_plan" = some (some (.ref f__law_plan))) (l__law_plan : K.lookup f__law_plan = some ⟨oc__law_plan, od__law_plan, .func (PySem.W.fnOf "_law_plan" "_law_plan" (defArgs s__law_plan) (defBody s__law_plan) (defScope s__law_plan) .none kV__law_plan dc__law_plan pm__law_plan an__law_plan cd__law_plan ct__law_plan), sl__law_plan⟩) (c__law_plan : PySem.W.codeIn K cd__law_plan "_law_plan" = true) (k__law_plan : PySem.W.keepIn K (.ref f__law_plan) = true)
    {f__law_answers : Addr} {od__law_answers an__law_answers : Option Addr} {sl__law_answers : Array (Option Value)} {oc__law_answers dc__law_answers pm__law_answers ct__law_answers : Value} {kV__law_answers : Value} {cd__law_answers : Value}
    (a__law_answers : PySem.W.nsIn K mainGlobals "_law_answers" = some (some (.ref f__law_answers))) (l__law_answers : K.lookup f__law_answers = some ⟨oc__law_answers, od__law_answers, .func (PySem.W.fnOf "_law_answers" "_law_answers" (defArgs s__law_answers) (defBody s__law_answers) (defScope s__law_answers) .none kV__law_answers dc__law_answers pm__law_answers an__law_answers cd__law_answers ct__law_answers), sl__law_answers⟩) (c__law_answers : PySem.W.codeIn K cd__law_answers "_law_answers" = true) (k__law_answers : PySem.W.keepIn K (.ref f__law_answers) = true)
    {f__law_said : Addr} {od__law_said an__law_said : Option Addr} {sl__law_said : Array (Option Value)} {oc__law_said dc__law_said pm__law_said ct__law_said : Value} {kV__law_said : Value} {cd__law_said : Value}
    (a__law_said : PySem.W.nsIn K mainGlobals "_law_said" = some (some (.ref f__law_said))) (l__law_said : K.lookup f__law_said = some ⟨oc__law_said, od__law_said, .func (PySem.W.fnOf "_law_said" "_law_said" (defArgs s__law_said) (defBody s__law_said) (defScope s__law_said) .none kV__law_said dc__law_said pm__law_said an__law_said cd__law_said ct__law_said), sl__law_said⟩) (c__law_said : PySem.W.codeIn K cd__law_said "_law_said" = true) (k__law_said : PySem.W.keepIn K (.ref f__law_said) = true)
    {f__law_lots : Addr} {od__law_lots an__law_lots : Option Addr} {sl__law_lots : Array (Option Value)} {oc__law_lots dc__law_lots pm__law_lots ct__law_lots : Value} {kV__law_lots : Value} 
    (a__law_lots : PySem.W.nsIn K mainGlobals "_law_lots" = some (some (.ref f__law_lots))) (l__law_lots : K.lookup f__law_lots = some ⟨oc__law_lots, od__law_lots, .func (PySem.W.fnOf "_law_lots" "_law_lots" (defArgs s__law_lots) (defBody s__law_lots) (defScope s__law_lots) .none kV__law_lots dc__law_lots pm__law_lots an__law_lots (.ref c) ct__law_lots), sl__law_lots⟩) (c__law_lots : PySem.W.codeIn K (.ref c) "_law_lots" = true) (k__law_lots : PySem.W.keepIn K (.ref f__law_lots) = true)
    {f__law_slips : Addr} {od__law_slips an__law_slips : Option Addr} {sl__law_slips : Array (Option Value)} {oc__law_slips dc__law_slips pm__law_slips ct__law_slips : Value} {kV__law_slips : Value} {cd__law_slips : Value}
    (a__law_slips : PySem.W.nsIn K mainGlobals "_law_slips" = some (some (.ref f__law_slips))) (l__law_slips : K.lookup f__law_slips = some ⟨oc__law_slips, od__law_slips, .func (PySem.W.fnOf "_law_slips" "_law_slips" (defArgs s__law_slips) (defBody s__law_slips) (defScope s__law_slips) .none kV__law_slips dc__law_slips pm__law_slips an__law_slips cd__law_slips ct__law_slips), sl__law_slips⟩) (c__law_slips : PySem.W.codeIn K cd__law_slips "_law_slips" = true) (k__law_slips : PySem.W.keepIn K (.ref f__law_slips) = true)
    {f__law_alike : Addr} {od__law_alike an__law_alike : Option Addr} {sl__law_alike : Array (Option Value)} {oc__law_alike dc__law_alike pm__law_alike ct__law_alike : Value} {kV__law_alike : Value} {cd__law_alike : Value}
    (a__law_alike : PySem.W.nsIn K mainGlobals "_law_alike" = some (some (.ref f__law_alike))) (l__law_alike : K.lookup f__law_alike = some ⟨oc__law_alike, od__law_alike, .func (PySem.W.fnOf "_law_alike" "_law_alike" (defArgs s__law_alike) (defBody s__law_alike) (defScope s__law_alike) .none kV__law_alike dc__law_alike pm__law_alike an__law_alike cd__law_alike ct__law_alike), sl__law_alike⟩) (c__law_alike : PySem.W.codeIn K cd__law_alike "_law_alike" = true) (k__law_alike : PySem.W.keepIn K (.ref f__law_alike) = true)
    {f_law : Addr} {od_law an_law : Option Addr} {sl_law : Array (Option Value)} {oc_law dc_law pm_law ct_law : Value} {kV_law : Value} {cd_law : Value}
    (a_law : PySem.W.nsIn K mainGlobals "law" = some (some (.ref f_law))) (l_law : K.lookup f_law = some ⟨oc_law, od_law, .func (PySem.W.fnOf "law" "law" (defArgs s_law) (defBody s_law) (defScope s_law) .none kV_law dc_law pm_law an_law cd_law ct_law), sl_law⟩) (c_law : PySem.W.codeIn K cd_law "law" = true) (k_law : PySem.W.keepIn K (.ref f_law) = true)
    {t_MOST_THINGS : Tok} (a_MOST_THINGS : PySem.W.nsIn K mainGlobals "MOST_THINGS" = some (some (.int 10 t_MOST_THINGS)))
    {t_MOST_PROBES : Tok} (a_MOST_PROBES : PySem.W.nsIn K mainGlobals "MOST_PROBES" = some (some (.int 16 t_MOST_PROBES)))
    {t_MOST_BAD : Tok} (a_MOST_BAD : PySem.W.nsIn K mainGlobals "MOST_BAD" = some (some (.int 3 t_MOST_BAD)))
    {t_MOST_SLIPS : Tok} (a_MOST_SLIPS : PySem.W.nsIn K mainGlobals "MOST_SLIPS" = some (some (.int 16 t_MOST_SLIPS)))
    (z_len : PySem.W.nsIn K mainGlobals "len" = some none)
    (z_any : PySem.W.nsIn K mainGlobals "any" = some none)
    (z_sum : PySem.W.nsIn K mainGlobals "sum" = some none)
    (z_isinstance : PySem.W.nsIn K mainGlobals "isinstance" = some none)
    (z_tuple : PySem.W.nsIn K mainGlobals "tuple" = some none)
    (z_list : PySem.W.nsIn K mainGlobals "list" = some none)
    (z_int : PySem.W.nsIn K mainGlobals "int" = some none)
    (z_bool : PySem.W.nsIn K mainGlobals "bool" = some none)
    (z_str : PySem.W.nsIn K mainGlobals "str" = some none)
    (z_range : PySem.W.nsIn K mainGlobals "range" = some none)
    (z_enumerate : PySem.W.nsIn K mainGlobals "enumerate" = some none)
    (z_zip : PySem.W.nsIn K mainGlobals "zip" = some none)
    (z_sorted : PySem.W.nsIn K mainGlobals "sorted" = some none)
    (a_cmb : PySem.W.nsIn K mainGlobals "combinations" = some (some (.type "itertools.combinations")))
    (tP : h.get? Pt = some { cls := .none, data := .fields #[] }) (nP : K.lookup Pt = none) (hd : PySem.W.codeHdIn K c Pt = true) :
    LamX.LawAtS l w K CX0 8 63 "_law_script" mg fa h := by
  have e := hfa.symm.trans (PySem.W.mg_of X0 G a_law)
  cases e
  have X : Txt mg := ⟨PySem.W.mg_none_of X0 G z_len, PySem.W.mg_none_of X0 G z_any, PySem.W.mg_none_of X0 G z_sum, PySem.W.mg_none_of X0 G z_isinstance, PySem.W.mg_none_of X0 G z_tuple, PySem.W.mg_none_of X0 G z_list, PySem.W.mg_none_of X0 G z_int, PySem.W.mg_none_of X0 G z_bool, PySem.W.mg_none_of X0 G z_str, PySem.W.mg_none_of X0 G z_range, PySem.W.mg_none_of X0 G z_enumerate, PySem.W.mg_none_of X0 G z_zip, PySem.W.mg_none_of X0 G z_sorted, ⟨_, PySem.W.mg_of X0 G a_MOST_THINGS⟩, ⟨_, PySem.W.mg_of X0 G a_MOST_PROBES⟩, ⟨_, PySem.W.mg_of X0 G a_MOST_BAD⟩, ⟨_, PySem.W.mg_of X0 G a_MOST_SLIPS⟩⟩
  have F_is_within := fun_mk (st := s_is_within) l_is_within c_is_within k_is_within
  have m_is_within := PySem.W.mg_of X0 G a_is_within
  have F_is_lot := fun_mk (st := s_is_lot) l_is_lot c_is_lot k_is_lot
  have m_is_lot := PySem.W.mg_of X0 G a_is_lot
  have F_is_probe := fun_mk (st := s_is_probe) l_is_probe c_is_probe k_is_probe
  have m_is_probe := PySem.W.mg_of X0 G a_is_probe
  have F_is_answer := fun_mk (st := s_is_answer) l_is_answer c_is_answer k_is_answer
  have m_is_answer := PySem.W.mg_of X0 G a_is_answer
  have F_check_plan := fun_mk (st := s_check_plan) l_check_plan c_check_plan k_check_plan
  have m_check_plan := PySem.W.mg_of X0 G a_check_plan
  have F_first_wrong := fun_mk (st := s_first_wrong) l_first_wrong c_first_wrong k_first_wrong
  have m_first_wrong := PySem.W.mg_of X0 G a_first_wrong
  have F_check_answers := fun_mk (st := s_check_answers) l_check_answers c_check_answers k_check_answers
  have m_check_answers := PySem.W.mg_of X0 G a_check_answers
  have F_check_count := fun_mk (st := s_check_count) l_check_count c_check_count k_check_count
  have m_check_count := PySem.W.mg_of X0 G a_check_count
  have F_check_most := fun_mk (st := s_check_most) l_check_most c_check_most k_check_most
  have m_check_most := PySem.W.mg_of X0 G a_check_most
  have F_check_slips := fun_mk (st := s_check_slips) l_check_slips c_check_slips k_check_slips
  have m_check_slips := PySem.W.mg_of X0 G a_check_slips
  have F_lots_up_to := fun_mk (st := s_lots_up_to) l_lots_up_to c_lots_up_to k_lots_up_to
  have m_lots_up_to := PySem.W.mg_of X0 G a_lots_up_to
  have F_answer_of := fun_mk (st := s_answer_of) l_answer_of c_answer_of k_answer_of
  have m_answer_of := PySem.W.mg_of X0 G a_answer_of
  have F_answers_of := fun_mk (st := s_answers_of) l_answers_of c_answers_of k_answers_of
  have m_answers_of := PySem.W.mg_of X0 G a_answers_of
  have F_slips_in := fun_mk (st := s_slips_in) l_slips_in c_slips_in k_slips_in
  have m_slips_in := PySem.W.mg_of X0 G a_slips_in
  have F_could := fun_mk (st := s_could) l_could c_could k_could
  have m_could := PySem.W.mg_of X0 G a_could
  have F_sure := fun_mk (st := s_sure) l_sure c_sure k_sure
  have m_sure := PySem.W.mg_of X0 G a_sure
  have F_how_many_have := fun_mk (st := s_how_many_have) l_how_many_have c_how_many_have k_how_many_have
  have m_how_many_have := PySem.W.mg_of X0 G a_how_many_have
  have F__law_row := fun_mk (st := s__law_row) l__law_row c__law_row k__law_row
  have m__law_row := PySem.W.mg_of X0 G a__law_row
  have F__law_taken := fun_mk (st := s__law_taken) l__law_taken c__law_taken k__law_taken
  have m__law_taken := PySem.W.mg_of X0 G a__law_taken
  have F__law_lot := fun_mk (st := s__law_lot) l__law_lot c__law_lot k__law_lot
  have m__law_lot := PySem.W.mg_of X0 G a__law_lot
  have F__law_plan := fun_mk (st := s__law_plan) l__law_plan c__law_plan k__law_plan
  have m__law_plan := PySem.W.mg_of X0 G a__law_plan
  have F__law_answers := fun_mk (st := s__law_answers) l__law_answers c__law_answers k__law_answers
  have m__law_answers := PySem.W.mg_of X0 G a__law_answers
  have F__law_said := fun_mk (st := s__law_said) l__law_said c__law_said k__law_said
  have m__law_said := PySem.W.mg_of X0 G a__law_said
  have C__law_lots : FunC K "_law_lots" "_law_lots" s__law_lots f__law_lots _ c := ⟨⟨_, _, _, _, _, _, _, _, rfl, l__law_lots, c__law_lots⟩, k__law_lots⟩
  have F__law_lots := C__law_lots.fun_
  have m__law_lots := PySem.W.mg_of X0 G a__law_lots
  have F__law_slips := fun_mk (st := s__law_slips) l__law_slips c__law_slips k__law_slips
  have m__law_slips := PySem.W.mg_of X0 G a__law_slips
  have F__law_alike := fun_mk (st := s__law_alike) l__law_alike c__law_alike k__law_alike
  have m__law_alike := PySem.W.mg_of X0 G a__law_alike
  have F_law := fun_mk (st := s_law) l_law c_law k_law
  have m_law := PySem.W.mg_of X0 G a_law
  have b_is_within := F_is_within.binds (ps := ["value", "low", "high"]) fun _ _ _ _ _ _ us hl => match us, hl with | [_, _, _], _ => rfl
  have b_is_lot := F_is_lot.binds (ps := ["value", "things"]) fun _ _ _ _ _ _ us hl => match us, hl with | [_, _], _ => rfl
  have b_is_probe := F_is_probe.binds (ps := ["value", "things"]) fun _ _ _ _ _ _ us hl => match us, hl with | [_, _], _ => rfl
  have b_is_answer := F_is_answer.binds (ps := ["value"]) fun _ _ _ _ _ _ us hl => match us, hl with | [_], _ => rfl
  have b_check_plan := F_check_plan.binds (ps := ["plan"]) fun _ _ _ _ _ _ us hl => match us, hl with | [_], _ => rfl
  have b_first_wrong := F_first_wrong.binds (ps := ["values", "many", "is_right"]) fun _ _ _ _ _ _ us hl => match us, hl with | [_, _, _], _ => rfl
  have b_check_answers := F_check_answers.binds (ps := ["told", "many"]) fun _ _ _ _ _ _ us hl => match us, hl with | [_, _], _ => rfl
  have b_check_count := F_check_count.binds (ps := ["value", "low", "high"]) fun _ _ _ _ _ _ us hl => match us, hl with | [_, _, _], _ => rfl
  have b_check_most := F_check_most.binds (ps := ["most"]) fun _ _ _ _ _ _ us hl => match us, hl with | [_], _ => rfl
  have b_check_slips := F_check_slips.binds (ps := ["slips"]) fun _ _ _ _ _ _ us hl => match us, hl with | [_], _ => rfl
  have b_lots_up_to := F_lots_up_to.binds (ps := ["things", "most"]) fun _ _ _ _ _ _ us hl => match us, hl with | [_, _], _ => rfl
  have b_answer_of := F_answer_of.binds (ps := ["probe", "lot"]) fun _ _ _ _ _ _ us hl => match us, hl with | [_, _], _ => rfl
  have b_answers_of := F_answers_of.binds (ps := ["probes", "lot"]) fun _ _ _ _ _ _ us hl => match us, hl with | [_, _], _ => rfl
  have b_slips_in := F_slips_in.binds (ps := ["told", "right"]) fun _ _ _ _ _ _ us hl => match us, hl with | [_, _], _ => rfl
  have b_how_many_have := F_how_many_have.binds (ps := ["thing", "lots"]) fun _ _ _ _ _ _ us hl => match us, hl with | [_, _], _ => rfl
  have b__law_row := F__law_row.binds (ps := ["_law_script"]) fun _ _ _ _ _ _ us hl => match us, hl with | [_], _ => rfl
  have b__law_taken := F__law_taken.binds (ps := ["_law_row_here", "_law_many"]) fun _ _ _ _ _ _ us hl => match us, hl with | [_, _], _ => rfl
  have b__law_lot := F__law_lot.binds (ps := ["_law_row_here", "_law_things"]) fun _ _ _ _ _ _ us hl => match us, hl with | [_, _], _ => rfl
  have b__law_plan := F__law_plan.binds (ps := ["_law_row_here", "_law_things", "_law_probes"]) fun _ _ _ _ _ _ us hl => match us, hl with | [_, _, _], _ => rfl
  have b__law_answers := F__law_answers.binds (ps := ["_law_plan_here", "_law_lot_here"]) fun _ _ _ _ _ _ us hl => match us, hl with | [_, _], _ => rfl
  have b__law_said := F__law_said.binds (ps := ["_law_row_here", "_law_plan_here"]) fun _ _ _ _ _ _ us hl => match us, hl with | [_, _], _ => rfl
  have b__law_lots := F__law_lots.binds (ps := ["_law_things", "_law_most"]) fun _ _ _ _ _ _ us hl => match us, hl with | [_, _], _ => rfl
  have b__law_slips := F__law_slips.binds (ps := ["_law_told", "_law_due"]) fun _ _ _ _ _ _ us hl => match us, hl with | [_, _], _ => rfl
  have b__law_alike := F__law_alike.binds (ps := ["_law_found", "_law_due"]) fun _ _ _ _ _ _ us hl => match us, hl with | [_, _], _ => rfl
  have Fd_could : FunD K "could" "could" (defArgs s_could) (defBody s_could) (defScope s_could) [] [("slips", V.int 0)] f_could _ := ⟨⟨_, _, _, _, _, _, _, _, _, _, rfl, l_could, c_could, .inl ⟨rfl, rfl⟩, .inr ⟨_, rfl, fun q hq => by rw [List.mem_singleton.mp hq]; exact ⟨_, n_could, ⟨_, rfl⟩⟩⟩⟩, k_could⟩
  obtain ⟨ds_could, hd_could, b_could⟩ := FunD.binds0 (ps := ["plan", "told", "most", "slips"]) Fd_could 3 (by simp) rfl fun _ _ _ _ _ _ us ks hl hk => match us, ks, hl, hk with | [_, _, _], [_], _, _ => ⟨_, _, _, _, _, _, rfl, rfl, rfl⟩
  obtain ⟨mv_could, bk_could⟩ := FunD.kbinds0 (ps := ["plan", "told", "most", "slips"]) Fd_could 3 ["slips"] [] (fun us _ ws => us ++ ws) (by simp) (fun q hq => by cases hq) (fun a _ b => vals_app a b) fun _ _ _ _ _ _ us mv ws hl hm hw => match us, mv, ws, hl, hm, hw with | [_, _, _], [], [_], _, _, _ => rfl
  have Fd_sure : FunD K "sure" "sure" (defArgs s_sure) (defBody s_sure) (defScope s_sure) [] [("slips", V.int 0)] f_sure _ := ⟨⟨_, _, _, _, _, _, _, _, _, _, rfl, l_sure, c_sure, .inl ⟨rfl, rfl⟩, .inr ⟨_, rfl, fun q hq => by rw [List.mem_singleton.mp hq]; exact ⟨_, n_sure, ⟨_, rfl⟩⟩⟩⟩, k_sure⟩
  obtain ⟨ds_sure, hd_sure, b_sure⟩ := FunD.binds0 (ps := ["plan", "told", "most", "slips"]) Fd_sure 3 (by simp) rfl fun _ _ _ _ _ _ us ks hl hk => match us, ks, hl, hk with | [_, _, _], [_], _, _ => ⟨_, _, _, _, _, _, rfl, rfl, rfl⟩
  obtain ⟨mv_sure, bk_sure⟩ := FunD.kbinds0 (ps := ["plan", "told", "most", "slips"]) Fd_sure 3 ["slips"] [] (fun us _ ws => us ++ ws) (by simp) (fun q hq => by cases hq) (fun a _ b => vals_app a b) fun _ _ _ _ _ _ us mv ws hl hm hw => match us, mv, ws, hl, hm, hw with | [_, _, _], [], [_], _, _, _ => rfl
  refine ⟨PySem.W.fnOf "law" "law" (defArgs s_law) (defBody s_law) (defScope s_law) .none kV_law dc_law pm_law an_law cd_law ct_law, [(c, Pt)], sp_law K (Tof Pt), fun p hp => by rw [List.mem_singleton.mp hp]; exact tP, fun p hp => by rw [List.mem_singleton.mp hp]; exact nP, fun p hp => by rw [List.mem_singleton.mp hp]; exact PySem.W.codeHd_of_K X0 hd, fun s u => .of_eq rfl, fun H a ns hl _ ht hS => ⟨a, ns, rfl, hS, fun p hp => ?_, fun _ => rfl⟩, fun base _ _ hTB => ?_⟩
  · rw [List.mem_singleton.mp hp]
    exact LamX.TabS.nil (ht _ (List.mem_singleton.mpr rfl))
  have TB : LamX.TabB base mg c Pt := hTB _ (List.mem_singleton.mpr rfl)
  have G_is_within := ok_is_within (mg := mg) (T := Tof Pt) (P := l.prog) (w := w) (base := base) F_is_within X
  have G_is_lot := ok_is_lot (mg := mg) (T := Tof Pt) (P := l.prog) (w := w) (base := base) F_is_lot X G_is_within k_is_within b_is_within m_is_within
  have G_is_probe := ok_is_probe (mg := mg) (T := Tof Pt) (P := l.prog) (w := w) (base := base) F_is_probe X G_is_lot k_is_lot b_is_lot m_is_lot
  have G_is_answer := ok_is_answer (mg := mg) (T := Tof Pt) (P := l.prog) (w := w) (base := base) F_is_answer G_is_within k_is_within b_is_within m_is_within
  have G_check_count := ok_check_count (mg := mg) (T := Tof Pt) (P := l.prog) (w := w) (base := base) F_check_count G_is_within k_is_within b_is_within m_is_within
  have G_check_most := ok_check_most (mg := mg) (T := Tof Pt) (P := l.prog) (w := w) (base := base) F_check_most X G_check_count k_check_count b_check_count m_check_count
  have G_check_slips := ok_check_slips (mg := mg) (T := Tof Pt) (P := l.prog) (w := w) (base := base) F_check_slips X G_check_count k_check_count b_check_count m_check_count
  have G_check_plan := ok_check_plan (mg := mg) (T := Tof Pt) (P := l.prog) (w := w) (base := base) F_check_plan X G_is_within k_is_within b_is_within m_is_within G_is_probe k_is_probe b_is_probe m_is_probe
  have G_first_wrong := ok_first_wrong (mg := mg) (T := Tof Pt) (P := l.prog) (w := w) (base := base) F_first_wrong X (p := isAnsD) (sp_is_eq G_is_answer) k_is_answer b_is_answer
  have G_check_answers := ok_check_answers (mg := mg) (T := Tof Pt) (P := l.prog) (w := w) (base := base) F_check_answers G_first_wrong k_first_wrong b_first_wrong m_first_wrong m_is_answer
  have G_lots_up_to := ok_lots_up_to (mg := mg) (T := Tof Pt) (P := l.prog) (w := w) (base := base) F_lots_up_to X (PySem.W.mg_of X0 G a_cmb)
  have G_answer_of := ok_answer_of (mg := mg) (T := Tof Pt) (P := l.prog) (w := w) (base := base) F_answer_of X
  have G_answers_of := ok_answers_of (mg := mg) (T := Tof Pt) (P := l.prog) (w := w) (base := base) F_answers_of X G_answer_of k_answer_of b_answer_of m_answer_of
  have G_slips_in := ok_slips_in (mg := mg) (T := Tof Pt) (P := l.prog) (w := w) (base := base) F_slips_in X
  have G_how_many_have := ok_how_many_have (mg := mg) (T := Tof Pt) (P := l.prog) (w := w) (base := base) F_how_many_have X
  have G_could := ok_could (mg := mg) (T := Tof Pt) (P := l.prog) (w := w) (base := base) F_could X G_check_plan k_check_plan b_check_plan m_check_plan G_check_answers k_check_answers b_check_answers m_check_answers G_check_most k_check_most b_check_most m_check_most G_check_slips k_check_slips b_check_slips m_check_slips G_lots_up_to k_lots_up_to b_lots_up_to m_lots_up_to G_slips_in k_slips_in b_slips_in m_slips_in G_answers_of k_answers_of b_answers_of m_answers_of
  have G_sure := ok_sure (mg := mg) (T := Tof Pt) (P := l.prog) (w := w) (base := base) F_sure X G_could k_could bk_could (fun _ _ => rfl) m_could G_how_many_have k_how_many_have b_how_many_have m_how_many_have
  have G__law_row := ok_row (mg := mg) (P := l.prog) (w := w) (base := base) F__law_row
  have G__law_taken := ok_taken (mg := mg) (T := Tof Pt) (P := l.prog) (w := w) (base := base) F__law_taken X
  have G__law_lot := ok_lot (mg := mg) (T := Tof Pt) (P := l.prog) (w := w) (base := base) F__law_lot X G__law_taken k__law_taken b__law_taken m__law_taken
  have G__law_plan := ok_plan (mg := mg) (T := Tof Pt) (P := l.prog) (w := w) (base := base) F__law_plan X G__law_taken k__law_taken b__law_taken m__law_taken G__law_lot k__law_lot b__law_lot m__law_lot
  have G__law_answers := ok_lans (mg := mg) (T := Tof Pt) (P := l.prog) (w := w) (base := base) F__law_answers X
  have G__law_said := ok_said (mg := mg) (T := Tof Pt) (P := l.prog) (w := w) (base := base) F__law_said G__law_taken k__law_taken b__law_taken m__law_taken G__law_lot k__law_lot b__law_lot m__law_lot G__law_answers k__law_answers b__law_answers m__law_answers
  have G__law_lots := ok_llots (mg := mg) (T := Tof Pt) (P := l.prog) (w := w) (base := base) C__law_lots X TB rfl
  have G__law_slips := ok_lslips (mg := mg) (T := Tof Pt) (P := l.prog) (w := w) (base := base) F__law_slips X
  have G__law_alike := ok_alike (mg := mg) (T := Tof Pt) (P := l.prog) (w := w) (base := base) F__law_alike X k__law_alike b__law_alike m__law_alike 5
  exact ok_law (mg := mg) (T := Tof Pt) (P := l.prog) (w := w) (base := base) F_law X  G__law_row k__law_row m__law_row b__law_row G__law_plan k__law_plan m__law_plan b__law_plan G__law_taken k__law_taken m__law_taken b__law_taken G__law_said k__law_said m__law_said b__law_said G__law_lots k__law_lots m__law_lots b__law_lots G__law_answers k__law_answers m__law_answers b__law_answers G__law_slips k__law_slips m__law_slips b__law_slips G__law_alike k__law_alike m__law_alike b__law_alike G_could k_could m_could bk_could (fun _ _ => rfl) b_could hd_could G_sure k_sure m_sure bk_sure (fun _ _ => rfl) b_sure hd_sure
end
end K03

open PySem PySem.W PyProof.Rows
set_option maxHeartbeats 0 in
theorem PySem.Challenge.cw_probelots_k03_what_may_be_so_holds : PySem.Challenge.rw_probelots_k03_what_may_be_so.Holds := by
  w_on; o_law; k_head; (case hw => w_witness2)
  k_fill
  refine LamX.walk_ofTs (l := PySem.Challenge.rw_probelots_k03_what_may_be_so) (n := 63) (k := 8) (x := "_law_script") (CX := fun _ => L2.CX0) rfl (by decide) rfl ⟨rfl, by decide, by decide⟩ (fun w h Y => km_in_of Y) ?F (fun _ _ _ _ _ h => h)
  case F =>
    intro w mg fa h Y KX G hmg
    refine' K03.all_mk (Pt := 246) KX G hmg ?a_is_within ?l_is_within ?c_is_within ?k_is_within ?a_is_lot ?l_is_lot ?c_is_lot ?k_is_lot ?a_is_probe ?l_is_probe ?c_is_probe ?k_is_probe ?a_is_answer ?l_is_answer ?c_is_answer ?k_is_answer ?a_check_plan ?l_check_plan ?c_check_plan ?k_check_plan ?a_first_wrong ?l_first_wrong ?c_first_wrong ?k_first_wrong ?a_check_answers ?l_check_answers ?c_check_answers ?k_check_answers ?a_check_count ?l_check_count ?c_check_count ?k_check_count ?a_check_most ?l_check_most ?c_check_most ?k_check_most ?a_check_slips ?l_check_slips ?c_check_slips ?k_check_slips ?a_lots_up_to ?l_lots_up_to ?c_lots_up_to ?k_lots_up_to ?a_answer_of ?l_answer_of ?c_answer_of ?k_answer_of ?a_answers_of ?l_answers_of ?c_answers_of ?k_answers_of ?a_slips_in ?l_slips_in ?c_slips_in ?k_slips_in ?a_could ?l_could ?c_could ?k_could ?n_could ?a_sure ?l_sure ?c_sure ?k_sure ?n_sure ?a_how_many_have ?l_how_many_have ?c_how_many_have ?k_how_many_have ?a__law_row ?l__law_row ?c__law_row ?k__law_row ?a__law_taken ?l__law_taken ?c__law_taken ?k__law_taken ?a__law_lot ?l__law_lot ?c__law_lot ?k__law_lot ?a__law_plan ?l__law_plan ?c__law_plan ?k__law_plan ?a__law_answers ?l__law_answers ?c__law_answers ?k__law_answers ?a__law_said ?l__law_said ?c__law_said ?k__law_said ?a__law_lots ?l__law_lots ?c__law_lots ?k__law_lots ?a__law_slips ?l__law_slips ?c__law_slips ?k__law_slips ?a__law_alike ?l__law_alike ?c__law_alike ?k__law_alike ?a_law ?l_law ?c_law ?k_law ?a_MOST_THINGS ?a_MOST_PROBES ?a_MOST_BAD ?a_MOST_SLIPS ?z_len ?z_any ?z_sum ?z_isinstance ?z_tuple ?z_list ?z_int ?z_bool ?z_str ?z_range ?z_enumerate ?z_zip ?z_sorted ?a_cmb ?tP ?nP ?hd
    (case a_is_within => k_is)
    (case l_is_within => k_is)
    (case c_is_within => k_is)
    (case k_is_within => k_is)
    (case a_is_lot => k_is)
    (case l_is_lot => k_is)
    (case c_is_lot => k_is)
    (case k_is_lot => k_is)
    (case a_is_probe => k_is)
    (case l_is_probe => k_is)
    (case c_is_probe => k_is)
    (case k_is_probe => k_is)
    (case a_is_answer => k_is)
    (case l_is_answer => k_is)
    (case c_is_answer => k_is)
    (case k_is_answer => k_is)
    (case a_check_plan => k_is)
    (case l_check_plan => k_is)
    (case c_check_plan => k_is)
    (case k_check_plan => k_is)
    (case a_first_wrong => k_is)
    (case l_first_wrong => k_is)
    (case c_first_wrong => k_is)
    (case k_first_wrong => k_is)
    (case a_check_answers => k_is)
    (case l_check_answers => k_is)
    (case c_check_answers => k_is)
    (case k_check_answers => k_is)
    (case a_check_count => k_is)
    (case l_check_count => k_is)
    (case c_check_count => k_is)
    (case k_check_count => k_is)
    (case a_check_most => k_is)
    (case l_check_most => k_is)
    (case c_check_most => k_is)
    (case k_check_most => k_is)
    (case a_check_slips => k_is)
    (case l_check_slips => k_is)
    (case c_check_slips => k_is)
    (case k_check_slips => k_is)
    (case a_lots_up_to => k_is)
    (case l_lots_up_to => k_is)
    (case c_lots_up_to => k_is)
    (case k_lots_up_to => k_is)
    (case a_answer_of => k_is)
    (case l_answer_of => k_is)
    (case c_answer_of => k_is)
    (case k_answer_of => k_is)
    (case a_answers_of => k_is)
    (case l_answers_of => k_is)
    (case c_answers_of => k_is)
    (case k_answers_of => k_is)
    (case a_slips_in => k_is)
    (case l_slips_in => k_is)
    (case c_slips_in => k_is)
    (case k_slips_in => k_is)
    (case a_could => k_is)
    (case l_could => k_is)
    (case c_could => k_is)
    (case k_could => k_is)
    (case n_could => k_is)
    (case a_sure => k_is)
    (case l_sure => k_is)
    (case c_sure => k_is)
    (case k_sure => k_is)
    (case n_sure => k_is)
    (case a_how_many_have => k_is)
    (case l_how_many_have => k_is)
    (case c_how_many_have => k_is)
    (case k_how_many_have => k_is)
    (case a__law_row => k_is)
    (case l__law_row => k_is)
    (case c__law_row => k_is)
    (case k__law_row => k_is)
    (case a__law_taken => k_is)
    (case l__law_taken => k_is)
    (case c__law_taken => k_is)
    (case k__law_taken => k_is)
    (case a__law_lot => k_is)
    (case l__law_lot => k_is)
    (case c__law_lot => k_is)
    (case k__law_lot => k_is)
    (case a__law_plan => k_is)
    (case l__law_plan => k_is)
    (case c__law_plan => k_is)
    (case k__law_plan => k_is)
    (case a__law_answers => k_is)
    (case l__law_answers => k_is)
    (case c__law_answers => k_is)
    (case k__law_answers => k_is)
    (case a__law_said => k_is)
    (case l__law_said => k_is)
    (case c__law_said => k_is)
    (case k__law_said => k_is)
    (case a__law_lots => k_is)
    (case l__law_lots => k_is)
    (case c__law_lots => k_is)
    (case k__law_lots => k_is)
    (case a__law_slips => k_is)
    (case l__law_slips => k_is)
    (case c__law_slips => k_is)
    (case k__law_slips => k_is)
    (case a__law_alike => k_is)
    (case l__law_alike => k_is)
    (case c__law_alike => k_is)
    (case k__law_alike => k_is)
    (case a_law => k_is)
    (case l_law => k_is)
    (case c_law => k_is)
    (case k_law => k_is)
    (case a_MOST_THINGS => k_is)
    (case a_MOST_PROBES => k_is)
    (case a_MOST_BAD => k_is)
    (case a_MOST_SLIPS => k_is)
    (case z_len => k_is)
    (case z_any => k_is)
    (case z_sum => k_is)
    (case z_isinstance => k_is)
    (case z_tuple => k_is)
    (case z_list => k_is)
    (case z_int => k_is)
    (case z_bool => k_is)
    (case z_str => k_is)
    (case z_range => k_is)
    (case z_enumerate => k_is)
    (case z_zip => k_is)
    (case z_sorted => k_is)
    (case a_cmb => k_is)
    (case tP => exact km_tabs_of Y 246 (by decide))
    (case nP => first | k_is | kernel_rfl)
    (case hd => first | k_is | kernel_rfl)
