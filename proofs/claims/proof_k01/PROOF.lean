import PyProof.Rows.All
import PySem.Challenge.RW_ascalls_k01_kinds
import HandS.ForMost
import HandS.ForExc
import HandS.Lambda
import KE.KDictKeyed
import HandS.Iter
import HandS.IsInst
import HandS.TupAny
import HandS.Text
import HandS.Deep
import PyProof.P3In
import HandS.Style
import HandS.FStr
import HandS.Dict
import HandS.SetFor
import HandS.Strs
import HandS.Defaults
import HandS.ExcInit
import HandS.ExcField
import HandS.Star
import PyProof.Rows.SortStr
import HandS.EndTab
import KE.GoesMore
import PyProof.StrOps2
import HandS.DictComp
import PyProof.Rows.IntBool
import HandS.Conv
import KE.KRevSl
import HandS.TupSets
import Wide.All
import OpenK.AllK
import Wide.FinOn
set_option Elab.async false
set_option linter.all false
set_option maxRecDepth 100000
set_option maxHeartbeats 4000000
/-! PL1: values D as plain data, the store, the monad M of what a def does, and how they lie in the abstract heap of HandS. -/
namespace PL
open PySem PySem.Spec L2
variable {wW : World}

/-- plain data; ref: a changing object of the store; frz: a list that is read alone (the script) -/
inductive D where
  | non | bl (b : Bool) | int (i : Int) | str (x : Str) | tup (ds : List D) | lst (ds : List D) | frz (ds : List D) | ref (n : Nat)
  deriving Inhabited
/-- an object of the store; tab: where the lambdas of a def keep their code -/
inductive Ob where
  | dict (kvs : List (Key × D)) | lst (ds : List D) | ins (C : Addr) (fs : List (Str × D)) | tab (P : Addr) (q : Str) | nd (kvs : List (D × D))
abbrev Sto := List Ob
structure Exn where
  cls : Str
  fs : List (Str × D)
inductive Res (α : Type) where
  | ok (a : α) (s : Sto) | err (x : Exn) (s : Sto) | bad
def M (α : Type) := Sto → Res α
namespace M
def pure {α : Type} (a : α) : M α := fun s => .ok a s
def bind {α β : Type} (m : M α) (f : α → M β) : M β := fun s => match m s with
  | .ok a s' => f a s'
  | .err x s' => .err x s'
  | .bad => .bad
instance : Monad M where
  pure := M.pure
  bind := M.bind
def bad {α : Type} : M α := fun _ => .bad
def raise {α : Type} (x : Exn) : M α := fun s => .err x s
def get : M Sto := fun s => .ok s s
def set (s : Sto) : M Unit := fun _ => .ok () s
theorem bind_eq {α β : Type} (m : M α) (f : α → M β) : (m >>= f) = M.bind m f := rfl
theorem pure_eq {α : Type} (a : α) : (Pure.pure a : M α) = M.pure a := rfl
theorem pure_bind {α β : Type} (a : α) (f : α → M β) : (M.pure a).bind f = f a := rfl
theorem bind_pure {α : Type} (m : M α) : m.bind M.pure = m := by
  funext s; unfold bind pure; cases m s <;> rfl
theorem bind_assoc {α β γ : Type} (m : M α) (f : α → M β) (g : β → M γ) : (m.bind f).bind g = m.bind fun a => (f a).bind g := by
  funext s; unfold bind; cases m s <;> rfl
theorem bad_bind {α β : Type} (f : α → M β) : (bad : M α).bind f = bad := rfl
theorem raise_bind {α β : Type} (x : Exn) (f : α → M β) : (raise x : M α).bind f = raise x := rfl
instance : LawfulMonad M := LawfulMonad.mk' (m := M) (id_map := fun x => bind_pure x) (pure_bind := fun a f => rfl) (bind_assoc := fun m f g => bind_assoc m f g)
end M

abbrev Mu := Nat → Option Addr
section
variable {K : PySem.W.Frag}
mutual
/-- the value v is the data d, by the fixed part G of the heap -/
inductive Rep (K : PySem.W.Frag) (G : Hp) (μ : Mu) : V → D → Prop
  | non : Rep K G μ .non .non
  | bl (b : Bool) : Rep K G μ (.bl b) (.bl b)
  | int (i : Int) : Rep K G μ (.int i) (.int i)
  | str (x : Str) : Rep K G μ (.str x) (.str x)
  | tup {a : Addr} {vs : List V} {ds : List D} : SqT K G a vs → RepL K G μ vs ds → Rep K G μ (.ref a) (.tup ds)
  | lst {a : Addr} {vs : List V} {ds : List D} : G a = some (.lst vs) → RepL K G μ vs ds → Rep K G μ (.ref a) (.lst ds)
  | frz {a : Addr} {vs : List V} {ds : List D} : SqL K G a vs → RepL K G μ vs ds → Rep K G μ (.ref a) (.frz ds)
  | ref {n : Nat} {a : Addr} : μ n = some a → Rep K G μ (.ref a) (.ref n)
inductive RepL (K : PySem.W.Frag) (G : Hp) (μ : Mu) : List V → List D → Prop
  | nil : RepL K G μ [] []
  | cons {v : V} {vs : List V} {d : D} {ds : List D} : Rep K G μ v d → RepL K G μ vs ds → RepL K G μ (v :: vs) (d :: ds)
end
def Sub (G G' : Hp) : Prop := ∀ a o, G a = some o → G' a = some o
def SubM (μ μ' : Mu) : Prop := ∀ n a, μ n = some a → μ' n = some a
theorem Sub.th {G H : Hp} (s : Sub G H) : ∀ a o, G a = some o → ∃ o', H a = some o' := fun a o h => ⟨o, s a o h⟩
theorem Sub.refl (G : Hp) : Sub G G := fun _ _ h => h
theorem Sub.trans {A B C : Hp} (x : Sub A B) (y : Sub B C) : Sub A C := fun a o h => y a o (x a o h)
theorem Sub.rd {G G' : Hp} (s : Sub G G') {a : Addr} {u : HO} (r : Rd G a u) : Rd G' a u := by
  rcases r with r | ⟨o, r⟩
  · exact .inl (s _ _ r)
  · exact .inr ⟨o, s _ _ r⟩
theorem Sub.sqT {G G' : Hp} (s : Sub G G') {a : Addr} {xs : List V} (r : SqT K G a xs) : SqT K G' a xs := r.imp s.rd id
theorem Sub.sqL {G G' : Hp} (s : Sub G G') {a : Addr} {xs : List V} (r : SqL K G a xs) : SqL K G' a xs := r.imp s.rd id
mutual
theorem Rep.mono {G G' : Hp} {μ μ' : Mu} (s : Sub G G') (m : SubM μ μ') : ∀ {v : V} {d : D}, Rep K G μ v d → Rep K G' μ' v d
  | _, _, .non => .non
  | _, _, .bl b => .bl b
  | _, _, .int i => .int i
  | _, _, .str x => .str x
  | _, _, .tup h r => .tup (s.sqT h) (RepL.mono s m r)
  | _, _, .lst h r => .lst (s _ _ h) (RepL.mono s m r)
  | _, _, .frz h r => .frz (s.sqL h) (RepL.mono s m r)
  | _, _, .ref h => .ref (m _ _ h)
theorem RepL.mono {G G' : Hp} {μ μ' : Mu} (s : Sub G G') (m : SubM μ μ') : ∀ {vs : List V} {ds : List D}, RepL K G μ vs ds → RepL K G' μ' vs ds
  | _, _, .nil => .nil
  | _, _, .cons h r => .cons (Rep.mono s m h) (RepL.mono s m r)
end
theorem RepL.length {G : Hp} {μ : Mu} : ∀ {vs : List V} {ds : List D}, RepL K G μ vs ds → vs.length = ds.length
  | _, _, .nil => rfl
  | _, _, .cons _ r => congrArg (· + 1) (RepL.length r)
theorem RepL.get {G : Hp} {μ : Mu} : ∀ {vs : List V} {ds : List D} {i : Nat} {d : D}, RepL K G μ vs ds → ds[i]? = some d → ∃ v, vs[i]? = some v ∧ Rep K G μ v d
  | _, _, _, _, .nil, e => by simp at e
  | _, _, 0, _, .cons h _, e => by simp at e; subst e; exact ⟨_, rfl, h⟩
  | _, _, i + 1, d, .cons _ r, e => by
    obtain ⟨v, h1, h2⟩ := RepL.get (i := i) (d := d) r (by simpa using e)
    exact ⟨v, by simpa using h1, h2⟩
theorem RepL.get' {G : Hp} {μ : Mu} : ∀ {vs : List V} {ds : List D} {i : Nat} {v : V}, RepL K G μ vs ds → vs[i]? = some v → ∃ d, ds[i]? = some d ∧ Rep K G μ v d
  | _, _, _, _, .nil, e => by simp at e
  | _, _, 0, _, .cons h _, e => by simp at e; subst e; exact ⟨_, rfl, h⟩
  | _, _, i + 1, d, .cons _ r, e => by
    obtain ⟨v, h1, h2⟩ := RepL.get' (i := i) (v := d) r (by simpa using e)
    exact ⟨v, by simpa using h1, h2⟩
theorem RepL.append {G : Hp} {μ : Mu} : ∀ {vs ws : List V} {ds es : List D}, RepL K G μ vs ds → RepL K G μ ws es → RepL K G μ (vs ++ ws) (ds ++ es)
  | _, _, _, _, .nil, s => s
  | _, _, _, _, .cons r t, s => .cons r (RepL.append t s)
theorem RepL.take {G : Hp} {μ : Mu} : ∀ {vs : List V} {ds : List D} (n : Nat), RepL K G μ vs ds → RepL K G μ (vs.take n) (ds.take n)
  | _, _, 0, _ => .nil
  | _, _, _ + 1, .nil => .nil
  | _, _, n + 1, .cons r t => .cons r (RepL.take n t)
theorem RepL.drop {G : Hp} {μ : Mu} : ∀ {vs : List V} {ds : List D} (n : Nat), RepL K G μ vs ds → RepL K G μ (vs.drop n) (ds.drop n)
  | _, _, 0, r => r
  | _, _, _ + 1, .nil => .nil
  | _, _, n + 1, .cons _ t => RepL.drop n t
theorem RepL.set {G : Hp} {μ : Mu} {v : V} {d : D} (r : Rep K G μ v d) : ∀ {vs : List V} {ds : List D} (i : Nat), RepL K G μ vs ds → RepL K G μ (vs.set i v) (ds.set i d)
  | _, _, _, .nil => .nil
  | _, _, 0, .cons _ t => .cons r t
  | _, _, i + 1, .cons q t => .cons q (RepL.set r i t)
theorem RepL.reverse {G : Hp} {μ : Mu} {vs : List V} {ds : List D} (r : RepL K G μ vs ds) : RepL K G μ vs.reverse ds.reverse := by
  induction r using RepL.rec (motive_1 := fun _ _ _ => True) with
  | nil => exact .nil
  | cons h t _ ih => simp only [List.reverse_cons]; exact ih.append (.cons h .nil)
  | _ => trivial

mutual
/-- data as a key of a dict -/
def nkD : D → Option NestedKey
  | .non => some .none
  | .bl b => some (.num (if b = true then 1 else 0))
  | .int i => some (.num i)
  | .str x => some (.text x)
  | .tup ds => (nkL ds).map .tup
  | _ => none
def nkL : List D → Option (List NestedKey)
  | [] => some []
  | d :: ds => (nkD d).bind fun k => (nkL ds).map (k :: ·)
end
def entN (w : World) (x : NestedKey × Addr × Value) : DictEntry := ⟨x.1.hash w, .ref x.2.1, x.2.2⟩
/-- at a: a dict with tuples as keys; ks tells the keys and where their tuples stand -/
def RawN (w : World) (a : Addr) (ks : List (NestedKey × Addr)) (vs : List V) (h : Heap) : Prop :=
  ∃ xs : List (NestedKey × Addr × Value), xs.map (fun x => (x.1, x.2.1)) = ks ∧ Vals vs (xs.map (·.2.2)) ∧ (a == sysModules) = false ∧ xs.length ≤ sizeLine ∧
    ∃ o es ep, h.get? a = some o ∧ o.ExactDict ∧ o.data = .dict es ep ∧ es.toList = xs.map (entN w) ∧ (xs.map (·.1)).Nodup
/-- the pairs kvs, as they lie -/
structure NR (K : PySem.W.Frag) (G : Hp) (μ : Mu) (ks : List (NestedKey × Addr)) (vs : List V) (kvs : List (D × D)) : Prop where
  nk : kvs.map (fun q => nkD q.1) = ks.map (fun k => some k.1)
  dp : ∀ k ∈ ks, k.1.depth ≤ 8
  k : RepL K G μ (ks.map fun k => V.ref k.2) (kvs.map (·.1))
  v : RepL K G μ vs (kvs.map (·.2))
theorem NR.mono {G G' : Hp} {μ μ' : Mu} {ks : List (NestedKey × Addr)} {vs : List V} {kvs : List (D × D)} (x : NR K G μ ks vs kvs) (s : Sub G G') (m : SubM μ μ') : NR K G' μ' ks vs kvs := ⟨x.nk, x.dp, x.k.mono s m, x.v.mono s m⟩
/-- the store's object o at a -/
def OR (wW : World) (K : PySem.W.Frag) (G : Hp) (μ : Mu) (H : Hp) (a : Addr) : Ob → Prop
  | .dict kvs => ∃ ws, H a = some (.dK ws) ∧ ws.map (·.1) = kvs.map (·.1) ∧ RepL K G μ (ws.map (·.2)) (kvs.map (·.2))
  | .lst ds => ∃ vs, H a = some (.lst vs) ∧ RepL K G μ vs ds
  | .ins C fs => ∃ dx ws, H a = some (.ins C dx ws) ∧ ws.map (·.1) = fs.map (·.1) ∧ RepL K G μ (ws.map (·.2)) (fs.map (·.2))
  | .tab P q => a = P ∧ ∃ ps : Array Value, H a = some (.tbl ps) ∧ TriplesOk ps.toList ∧ ∀ (pos : Pos) (cv : Value), codeAmong pos ps.toList = some cv → ∃ c, cv = .ref c ∧ G c = some (LamX.CodeO c q)
  | .nd kvs => ∃ ks vs, H a = some (.ext (RawN wW a ks vs)) ∧ NR K G μ ks vs kvs
theorem OR.mono {G G' H H' : Hp} {μ μ' : Mu} {a : Addr} {o : Ob} (x : OR wW K G μ H a o) (s : Sub G G') (m : SubM μ μ') (e : ∀ u, H a = some u → H' a = some u) : OR wW K G' μ' H' a o := by
  cases o with
  | dict kvs => obtain ⟨ws, h, k, r⟩ := x; exact ⟨ws, e _ h, k, r.mono s m⟩
  | lst ds => obtain ⟨vs, h, r⟩ := x; exact ⟨vs, e _ h, r.mono s m⟩
  | ins C fs => obtain ⟨dx, ws, h, k, r⟩ := x; exact ⟨dx, ws, e _ h, k, r.mono s m⟩
  | tab P q => obtain ⟨e0, ps, h, t, k⟩ := x; exact ⟨e0, ps, e _ h, t, fun pos cv hc => let ⟨c, c1, c2⟩ := k pos cv hc; ⟨c, c1, s _ _ c2⟩⟩
  | nd kvs => obtain ⟨ks, vs, h, r⟩ := x; exact ⟨ks, vs, e _ h, r.mono s m⟩
theorem OR.there {G H : Hp} {μ : Mu} {a : Addr} {o : Ob} (x : OR wW K G μ H a o) : ∃ u, H a = some u := by
  cases o with
  | dict kvs => obtain ⟨ws, h, _⟩ := x; exact ⟨_, h⟩
  | lst ds => obtain ⟨vs, h, _⟩ := x; exact ⟨_, h⟩
  | ins C fs => obtain ⟨dx, ws, h, _⟩ := x; exact ⟨_, h⟩
  | tab P q => obtain ⟨_, ps, h, _⟩ := x; exact ⟨_, h⟩
  | nd kvs => obtain ⟨ks, vs, h, _⟩ := x; exact ⟨_, h⟩

/-- the abstract heap bears the store -/
structure Wd (wW : World) (K : PySem.W.Frag) (H G : Hp) (μ : Mu) (st : Sto) : Prop where
  imm : Sub G H
  obj : ∀ n o, st[n]? = some o → ∃ a, μ n = some a ∧ G a = none ∧ OR wW K G μ H a o
  inj : ∀ n m a, μ n = some a → μ m = some a → n = m
  dom : ∀ n a, μ n = some a → n < st.length
/-- from one state to a later one: what is not of the store stands as it was -/
structure Stp (H G : Hp) (μ : Mu) (H' G' : Hp) (μ' : Mu) : Prop where
  g : Sub G G'
  m : SubM μ μ'
  fr : ∀ a o, H a = some o → (∀ n, μ n ≠ some a) → H' a = some o
  th : ∀ a o, H a = some o → ∃ o', H' a = some o'
  ng : ∀ a, G a = none → G' a ≠ none → H a = none
  nm : ∀ n a, μ n = none → μ' n = some a → H a = none
section
variable {H G H1 G1 H2 G2 : Hp} {μ μ1 μ2 : Mu} {st st1 : Sto}
theorem Stp.refl : Stp H G μ H G μ := ⟨fun _ _ h => h, fun _ _ h => h, fun _ _ h _ => h, fun _ o h => ⟨o, h⟩, fun _ e n => absurd e n, fun _ _ e n => by rw [e] at n; cases n⟩
theorem Stp.trans (x : Stp H G μ H1 G1 μ1) (y : Stp H1 G1 μ1 H2 G2 μ2) : Stp H G μ H2 G2 μ2 where
  g := x.g.trans y.g
  m := fun n a h => y.m n a (x.m n a h)
  fr := fun a o h n => y.fr a o (x.fr a o h n) fun k e => by
    cases q : μ k with
    | some b =>
      have := x.m k b q
      rw [e] at this; cases this
      exact n k q
    | none => have := x.nm k a q e; rw [h] at this; cases this
  th := fun a o h => let ⟨o1, h1⟩ := x.th a o h; y.th a o1 h1
  ng := fun a e n => by
    cases q : G1 a with
    | some o => exact x.ng a e (by rw [q]; simp)
    | none =>
      have h1 := y.ng a q n
      cases r : H a with
      | none => rfl
      | some o => obtain ⟨o', h'⟩ := x.th a o r; rw [h1] at h'; cases h'
  nm := fun k a e n => by
    cases q : μ1 k with
    | some b =>
      have := y.m k b q
      rw [n] at this; cases this
      exact x.nm k a e q
    | none =>
      have h1 := y.nm k a q n
      cases r : H a with
      | none => rfl
      | some o => obtain ⟨o', h'⟩ := x.th a o r; rw [h1] at h'; cases h'
/-- a fresh address gets an object that is fixed -/
theorem Wd.new (w : Wd wW K H G μ st) {p : Addr} {o : HO} (hp : H p = none) : Wd wW K (upd H p o) (upd G p o) μ st ∧ Stp H G μ (upd H p o) (upd G p o) μ := by
  have gp : G p = none := by
    cases q : G p with
    | none => rfl
    | some u => have := w.imm _ _ q; rw [hp] at this; cases this
  have sg : Sub G (upd G p o) := fun a u h => by rw [upd_ne (ne_of_none h gp)]; exact h
  refine ⟨⟨fun a u h => ?_, fun n x e => ?_, w.inj, w.dom⟩, ⟨sg, fun _ _ h => h, fun a u h _ => by rw [upd_ne (ne_of_none h hp)]; exact h, fun a u h => ⟨u, by rw [upd_ne (ne_of_none h hp)]; exact h⟩, fun a e n => ?_, fun n a e q => by rw [e] at q; cases q⟩⟩
  · by_cases ha : a = p
    · subst ha; rw [upd_same] at h ⊢; exact h
    · rw [upd_ne ha] at h ⊢; exact w.imm _ _ h
  · obtain ⟨a, h1, h2, h3⟩ := w.obj n x e
    obtain ⟨u, hu⟩ := h3.there
    have ne : a ≠ p := ne_of_none hu hp
    exact ⟨a, h1, by rw [upd_ne ne]; exact h2, h3.mono sg (fun _ _ h => h) fun v hv => by rw [upd_ne ne]; exact hv⟩
  · by_cases ha : a = p
    · subst ha; exact hp
    · rw [upd_ne ha] at n; exact absurd e n
/-- .. an object that is not told -/
theorem Wd.lay (w : Wd wW K H G μ st) {p : Addr} {o : HO} (hp : H p = none) : Wd wW K (upd H p o) G μ st ∧ Stp H G μ (upd H p o) G μ := by
  refine ⟨⟨fun a u h => by rw [upd_ne (ne_of_none (w.imm _ _ h) hp)]; exact w.imm _ _ h, fun n x e => ?_, w.inj, w.dom⟩, ⟨fun _ _ h => h, fun _ _ h => h, fun a u h _ => by rw [upd_ne (ne_of_none h hp)]; exact h, fun a u h => ⟨u, by rw [upd_ne (ne_of_none h hp)]; exact h⟩, fun _ e n => absurd e n, fun n a e q => by rw [e] at q; cases q⟩⟩
  obtain ⟨a, h1, h2, h3⟩ := w.obj n x e
  obtain ⟨u, hu⟩ := h3.there
  have ne : a ≠ p := ne_of_none hu hp
  exact ⟨a, h1, h2, h3.mono (fun _ _ h => h) (fun _ _ h => h) fun v hv => by rw [upd_ne ne]; exact hv⟩
/-- a new object of the store -/
def muAdd (μ : Mu) (n : Nat) (p : Addr) : Mu := fun m => if m = n then some p else μ m
theorem Wd.add (w : Wd wW K H G μ st) {p : Addr} {o : HO} {x : Ob} (hp : H p = none) (hx : OR wW K G (muAdd μ st.length p) (upd H p o) p x) : Wd wW K (upd H p o) G (muAdd μ st.length p) (st ++ [x]) ∧ Stp H G μ (upd H p o) G (muAdd μ st.length p) := by
  have nn : μ st.length = none := by
    cases q : μ st.length with
    | none => rfl
    | some a => exact absurd (w.dom _ _ q) (Nat.lt_irrefl _)
  have sm : SubM μ (muAdd μ st.length p) := fun n a h => by
    unfold muAdd; rw [if_neg (fun e => by rw [e, nn] at h; cases h)]; exact h
  have gp : G p = none := by
    cases q : G p with
    | none => rfl
    | some u => have := w.imm _ _ q; rw [hp] at this; cases this
  have nep : ∀ n, μ n ≠ some p := fun n e => by
    have hl := w.dom n p e
    obtain ⟨a, h1, _, h3⟩ := w.obj n _ (List.getElem?_eq_getElem hl)
    rw [e] at h1; cases h1
    obtain ⟨u, hu⟩ := h3.there
    rw [hp] at hu; cases hu
  refine ⟨⟨fun a u h => by rw [upd_ne (ne_of_none (w.imm _ _ h) hp)]; exact w.imm _ _ h, fun n y e => ?_, fun n m a e1 e2 => ?_, fun n a e => ?_⟩, ⟨fun _ _ h => h, sm, fun a u h _ => by rw [upd_ne (ne_of_none h hp)]; exact h, fun a u h => ⟨u, by rw [upd_ne (ne_of_none h hp)]; exact h⟩, fun _ e n => absurd e n, fun n a e q => ?_⟩⟩
  · by_cases hn : n = st.length
    · subst hn
      rw [List.getElem?_concat_length] at e
      cases e
      exact ⟨p, by unfold muAdd; rw [if_pos rfl], gp, hx⟩
    · have hlt : n < st.length := by
        have := (List.getElem?_eq_some_iff.mp e).1
        rw [List.length_append, List.length_singleton] at this
        omega
      rw [List.getElem?_append_left hlt] at e
      obtain ⟨a, h1, h2, h3⟩ := w.obj n y e
      obtain ⟨u, hu⟩ := h3.there
      have ne : a ≠ p := ne_of_none hu hp
      exact ⟨a, sm _ _ h1, h2, h3.mono (fun _ _ h => h) sm fun v hv => by rw [upd_ne ne]; exact hv⟩
  · unfold muAdd at e1 e2
    by_cases h1 : n = st.length <;> by_cases h2 : m = st.length
    · rw [h1, h2]
    · rw [if_pos h1] at e1; rw [if_neg h2] at e2; cases e1; exact absurd e2 (nep m)
    · rw [if_neg h1] at e1; rw [if_pos h2] at e2; cases e2; exact absurd e1 (nep n)
    · rw [if_neg h1] at e1; rw [if_neg h2] at e2; exact w.inj n m a e1 e2
  · unfold muAdd at e
    rw [List.length_append, List.length_singleton]
    by_cases h1 : n = st.length
    · omega
    · rw [if_neg h1] at e
      have := w.dom n a e
      omega
  · unfold muAdd at q
    by_cases h1 : n = st.length
    · rw [if_pos h1] at q; cases q; exact hp
    · rw [if_neg h1, e] at q; cases q
/-- an object of the store is changed -/
theorem Wd.write (w : Wd wW K H G μ st) {n : Nat} {p : Addr} {o : HO} {x y : Ob} (hs : st[n]? = some y) (hn : μ n = some p) (hx : OR wW K G μ (upd H p o) p x) : Wd wW K (upd H p o) G μ (st.set n x) ∧ Stp H G μ (upd H p o) G μ := by
  obtain ⟨p', e1, gp, q⟩ := w.obj n y hs
  rw [hn] at e1; cases e1
  obtain ⟨u0, hu0⟩ := q.there
  have hlt : n < st.length := (List.getElem?_eq_some_iff.mp hs).1
  refine ⟨⟨fun a u h => ?_, fun m z e => ?_, w.inj, fun m a e => by rw [List.length_set]; exact w.dom m a e⟩, ⟨fun _ _ h => h, fun _ _ h => h, fun a u h k => ?_, fun a u h => ?_, fun _ e n => absurd e n, fun m a e q => by rw [e] at q; cases q⟩⟩
  · have ne : a ≠ p := fun e => by rw [e, gp] at h; cases h
    rw [upd_ne ne]; exact w.imm _ _ h
  · by_cases hm : m = n
    · subst hm
      rw [List.getElem?_set_self hlt] at e
      cases e
      exact ⟨p, hn, gp, hx⟩
    · rw [List.getElem?_set_ne (Ne.symm hm)] at e
      obtain ⟨a, h1, h2, h3⟩ := w.obj m z e
      have ne : a ≠ p := fun e => hm (w.inj m n p (e ▸ h1) hn)
      exact ⟨a, h1, h2, h3.mono (fun _ _ h => h) (fun _ _ h => h) fun v hv => by rw [upd_ne ne]; exact hv⟩
  · have ne : a ≠ p := fun e => k n (e ▸ hn)
    rw [upd_ne ne]; exact h
  · by_cases ha : a = p
    · subst ha; exact ⟨o, upd_same⟩
    · exact ⟨u, by rw [upd_ne ha]; exact h⟩
end
end
end PL

set_option linter.all false
set_option maxRecDepth 100000
set_option maxHeartbeats 4000000
/-! PL2: slots, the judgements JE (an expression does f), JB (borrowed), JA (arguments), JS, JSs (statements), and their base rules. -/
namespace PL
open PySem PySem.Spec L2
variable {wW : World}

/-- a slot of a def: nothing known, a value, a list that this slot alone holds -/
inductive Slot where
  | no | val (d : D) | own (ds : List D)
  deriving Inhabited
abbrev En := List Slot

/-- a value that may be a list in its owner's hands -/
def BRep (K : PySem.W.Frag) (H G : Hp) (μ : Mu) (v : V) (d : D) : Prop :=
  Rep K G μ v d ∨ ∃ a vs ds, v = .ref a ∧ d = .lst ds ∧ H a = some (.lst vs) ∧ RepL K G μ vs ds ∧ True
/-- .. out of the store: what others do leaves it as it is -/
def BSt (K : PySem.W.Frag) (H G : Hp) (μ : Mu) (v : V) (d : D) : Prop :=
  Rep K G μ v d ∨ ∃ a vs ds, v = .ref a ∧ d = .lst ds ∧ H a = some (.lst vs) ∧ RepL K G μ vs ds ∧ ∀ n, μ n ≠ some a

structure ER (K : PySem.W.Frag) (H G : Hp) (μ : Mu) (H0 : Hp) (ρ : En) (σ : L2.St) : Prop where
  val : ∀ (i : Nat) d, ρ[i]? = some (.val d) → ∃ v, σ[i]? = some (some v) ∧ Rep K G μ v d
  own : ∀ (i : Nat) ds, ρ[i]? = some (.own ds) → ∃ a vs, σ[i]? = some (some (.ref a)) ∧ H a = some (.lst vs) ∧ RepL K G μ vs ds ∧ G a = none ∧ (∀ n, μ n ≠ some a) ∧ H0 a = none
  inj : ∀ (i j : Nat) ds es a, ρ[i]? = some (.own ds) → ρ[j]? = some (.own es) → σ[i]? = some (some (.ref a)) → σ[j]? = some (some (.ref a)) → i = j
  len : ρ.length = σ.length
  old : ∀ a o, H0 a = some o → ∃ o', H a = some o'
section
variable {K : PySem.W.Frag} {H G H1 G1 H0 : Hp} {μ μ1 : Mu} {ρ : En} {σ : L2.St} {v : V} {d : D}
theorem BSt.weak (r : BSt K H G μ v d) : BRep K H G μ v d := r.imp id fun ⟨a, vs, ds, h1, h2, h3, h4, _⟩ => ⟨a, vs, ds, h1, h2, h3, h4, trivial⟩
theorem BSt.step (r : BSt K H G μ v d) (s : Stp H G μ H1 G1 μ1) : BSt K H1 G1 μ1 v d := by
  rcases r with r | ⟨a, vs, ds, e1, e2, h, r, n⟩
  · exact .inl (r.mono s.g s.m)
  · refine .inr ⟨a, vs, ds, e1, e2, s.fr a _ h n, r.mono s.g s.m, fun k e => ?_⟩
    cases q : μ k with
    | some b => have := s.m k b q; rw [e] at this; cases this; exact n k q
    | none => have := s.nm k a q e; rw [h] at this; cases this
theorem ER.step (e : ER K H G μ H0 ρ σ) (s : Stp H G μ H1 G1 μ1) : ER K H1 G1 μ1 H0 ρ σ where
  val := fun i d q => let ⟨v, h1, h2⟩ := e.val i d q; ⟨v, h1, h2.mono s.g s.m⟩
  own := fun i ds q => by
    obtain ⟨a, vs, h1, h2, h3, h4, h5, h6⟩ := e.own i ds q
    refine ⟨a, vs, h1, s.fr a _ h2 h5, h3.mono s.g s.m, ?_, fun k e => ?_, h6⟩
    · cases q : G1 a with
      | none => rfl
      | some o => have := s.ng a h4 (by rw [q]; simp); rw [h2] at this; cases this
    · cases q : μ k with
      | some b => have := s.m k b q; rw [e] at this; cases this; exact h5 k q
      | none => have := s.nm k a q e; rw [h2] at this; cases this
  inj := e.inj
  len := e.len
  old := fun a o h => let ⟨o1, h1⟩ := e.old a o h; s.th a o1 h1
end

/-- how an exception lies -/
structure XRep (K : PySem.W.Frag) (mg : Str → Option Value) (G : Hp) (μ : Mu) (x : Exn) (c : Value) (dd : Option Addr) (H : Hp) : Prop where
  cls : mg x.cls = some c
  fs : ∃ d ws, dd = some d ∧ H d = some (.xd ws) ∧ ws.map (·.1) = x.fs.map (·.1) ∧ RepL K G μ (ws.map (·.2)) (x.fs.map (·.2))

/-- how a result lies: the heap ahead, the heap behind, its fixed part, the store's places, the result, its data -/
structure RR (β α : Type) where
  r : Hp → Hp → Hp → Mu → β → α → Prop
  anti : ∀ {H H1 H' G' : Hp} {μ' : Mu} {v : β} {a : α}, (∀ b o, H b = some o → ∃ o', H1 b = some o') → r H1 H' G' μ' v a → r H H' G' μ' v a
/-- what is wanted behind m, from (H, G, μ) on; R: how the result lies -/
def Post {α : Type} {β : Type} (wW : World) (K : PySem.W.Frag) (mg : Str → Option Value) (E : XK) (R : RR β α) (H G : Hp) (μ : Mu) (r : Res α) (Q : β → Hp → Prop) : Prop :=
  match r with
  | .ok a st' => ∀ v H' G' μ', Wd wW K H' G' μ' st' → Stp H G μ H' G' μ' → R.r H H' G' μ' v a → Q v H'
  | .err x st' => ∀ c dd H' G' μ', Wd wW K H' G' μ' st' → Stp H G μ H' G' μ' → XRep K mg G' μ' x c dd H' → E c dd H'
  | .bad => False
section
variable {K : PySem.W.Frag} {mg : Str → Option Value} {E : XK} {α β : Type} {R R' : RR β α} {H G H1 G1 : Hp} {μ μ1 : Mu} {r : Res α} {Q Q' : β → Hp → Prop}
theorem Post.step (p : Post wW K mg E R H G μ r Q) (s : Stp H G μ H1 G1 μ1) : Post wW K mg E R H1 G1 μ1 r Q := by
  cases r with
  | ok a st => exact fun v H' G' μ' w t q => p v H' G' μ' w (s.trans t) (R.anti s.th q)
  | err x st => exact fun c dd H' G' μ' w t q => p c dd H' G' μ' w (s.trans t) q
  | bad => exact p
theorem Post.imp (p : Post wW K mg E R H G μ r Q) (h : ∀ H0 H' G' μ' v a, R'.r H0 H' G' μ' v a → R.r H0 H' G' μ' v a) : Post wW K mg E R' H G μ r Q := by
  cases r with
  | ok a st => exact fun v H' G' μ' w t q => p v H' G' μ' w t (h _ _ _ _ _ _ q)
  | err x st => exact p
  | bad => exact p
/-- the way through a bind; what is wanted is still told from the first state on -/
theorem Post.raw {γ δ : Type} {R2 : RR δ γ} {m : M γ} {f : γ → M α} {st : Sto} {Q2 : δ → Hp → Prop} (p : Post wW K mg E R H G μ (m.bind f st) Q)
    (h : ∀ a st' v H' G' μ', Wd wW K H' G' μ' st' → Stp H G μ H' G' μ' → R2.r H H' G' μ' v a → Post wW K mg E R H G μ (f a st') Q → Q2 v H') : Post wW K mg E R2 H G μ (m st) Q2 := by
  unfold M.bind at p
  cases e : m st with
  | ok a st' =>
    rw [e] at p
    exact fun v H' G' μ' w t q => h a st' v H' G' μ' w t q p
  | err x st' =>
    rw [e] at p
    exact p
  | bad => rw [e] at p; exact p
theorem Post.bind {γ δ : Type} {R2 : RR δ γ} {m : M γ} {f : γ → M α} {st : Sto} {Q2 : δ → Hp → Prop} (p : Post wW K mg E R H G μ (m.bind f st) Q)
    (h : ∀ a st' v H' G' μ', Wd wW K H' G' μ' st' → Stp H G μ H' G' μ' → R2.r H H' G' μ' v a → Post wW K mg E R H' G' μ' (f a st') Q → Q2 v H') : Post wW K mg E R2 H G μ (m st) Q2 :=
  p.raw fun a st' v H' G' μ' w t q p' => h a st' v H' G' μ' w t q (p'.step t)
end

def rRep (K : PySem.W.Frag) : RR V D := ⟨fun _ _ G μ v d => Rep K G μ v d, fun _ h => h⟩
def rBRep (K : PySem.W.Frag) : RR V D := ⟨fun _ H G μ v d => BSt K H G μ v d, fun _ h => h⟩
def rRepL (K : PySem.W.Frag) : RR (List V) (List D) := ⟨fun _ _ G μ v d => RepL K G μ v d, fun _ h => h⟩
def rTrue : RR Bool Bool := ⟨fun _ _ _ _ v d => v = d, fun _ h => h⟩
/-- a list that was made, in no other's hands -/
def Fresh (K : PySem.W.Frag) (H H' G : Hp) (μ : Mu) (v : V) (ds : List D) : Prop := ∃ a vs, v = .ref a ∧ H' a = some (.lst vs) ∧ RepL K G μ vs ds ∧ G a = none ∧ (∀ n, μ n ≠ some a) ∧ H a = none
theorem none_before {H H1 : Hp} (t : ∀ b o, H b = some o → ∃ o', H1 b = some o') {a : Addr} (h : H1 a = none) : H a = none := by
  cases q : H a with
  | none => rfl
  | some o => obtain ⟨o', h'⟩ := t a o q; rw [h] at h'; cases h'
def rFresh (K : PySem.W.Frag) : RR V (List D) := ⟨fun H H' G μ v ds => Fresh K H H' G μ v ds, fun t ⟨a, vs, h1, h2, h3, h4, h5, h6⟩ => ⟨a, vs, h1, h2, h3, h4, h5, none_before t h6⟩⟩

/-- the reading of what does f -/
def Se {α β : Type} (X : Cx) (E : XK) (H0 : Hp) (R : RR β α) (f : En → M α)   : L2.St → Hp → (β → Hp → Prop) → Prop := fun σ H Q =>
  ∃ G μ st ρ, Wd X.w X.K H G μ st ∧ ER X.K H G μ H0 ρ σ ∧ Post X.w X.K X.mg E R H G μ (f ρ st) Q
/-- an expression that does f, without a change of the slots -/
def JE (X : Cx) (E : XK) (H0 : Hp) (f : En → M D) (e : Expr) : Prop := PE X e (Se X E H0 (rRep X.K) f)
def JB (X : Cx) (E : XK) (H0 : Hp) (f : En → M D) (e : Expr) : Prop := PE X e (Se X E H0 (rBRep X.K) f)
def JA (X : Cx) (E : XK) (H0 : Hp) (f : En → M (List D)) (es : List Expr) : Prop := PA X es (Se X E H0 (rRepL X.K) f)
def JT (X : Cx) (E : XK) (H0 : Hp) (f : En → M Bool) (e : Expr) : Prop := PT X e (Se X E H0 rTrue f)

section
variable {X : Cx} {E : XK} {H0 : Hp} {e a b : Expr} {f g : En → M D} {pos : Pos}
theorem PE.imp {t t' : TE} (h : PE X e t) (q : ∀ σ H Q, t' σ H Q → t σ H Q) : PE X e t' := ⟨fun pins s σ H Q I x => h.run pins s σ H Q I (q _ _ _ x)⟩
theorem PT.imp {t t' : TT} (h : PT X e t) (q : ∀ σ H Q, t' σ H Q → t σ H Q) : PT X e t' := ⟨fun pins s σ H Q I x => h.run pins s σ H Q I (q _ _ _ x)⟩
theorem PA.imp {es : List Expr} {t t' : TA} (h : PA X es t) (q : ∀ σ H Q, t' σ H Q → t σ H Q) : PA X es t' := ⟨fun pos pins s σ H Q I x => h.run pos pins s σ H Q I (q _ _ _ x)⟩
theorem PS.imp {st : Stmt} {t t' : TS} (h : PS X st t) (q : ∀ D σ H, t' D σ H → t D σ H) : PS X st t' := ⟨fun pins s σ H D I x => h.run pins s σ H D I (q _ _ _ x)⟩
theorem PSs.imp {st : List Stmt} {t t' : TS} (h : PSs X st t) (q : ∀ D σ H, t' D σ H → t D σ H) : PSs X st t' := ⟨fun pins s σ H D I x => h.run pins s σ H D I (q _ _ _ x)⟩
theorem JE.jb (h : JE X E H0 f e) : JB X E H0 f e := PE.imp h fun σ H Q ⟨G, μ, st, ρ, w, er, p⟩ => ⟨G, μ, st, ρ, w, er, p.imp fun _ _ _ _ _ _ r => .inl r⟩

/-! ### names and constants -/
def eVar (i : Nat) : En → M D := fun ρ => match ρ[i]? with
  | some (.val d) => M.pure d
  | _ => M.bad
/-- a name whose list is looked at -/
def eLook (i : Nat) : En → M D := fun ρ => match ρ[i]? with
  | some (.val d) => M.pure d
  | some (.own ds) => M.pure (.lst ds)
  | _ => M.bad
theorem je_var {i : Nat} {x : Str} (hN : X.N[i]? = some x) (hv : Vis X.env.scope x) (hd : (x == ("__debug__" : Str)) = false := by decide) (hcd : (x == ("__classdict__" : Str)) = false := by decide) : JE X E H0 (eVar i) (.Name x pos) := by
  refine PE.imp (pe_var hN hv hd hcd) fun σ H Q ⟨G, μ, st, ρ, w, er, p⟩ => ?_
  unfold eVar at p
  cases q : ρ[i]? with
  | none => rw [q] at p; exact p.elim
  | some s =>
    rw [q] at p
    cases s with
    | no => exact p.elim
    | own ds => exact p.elim
    | val d =>
      obtain ⟨v, h1, h2⟩ := er.val i d q
      exact ⟨v, h1, p v H G μ w .refl h2⟩
theorem jb_look {i : Nat} {x : Str} (hN : X.N[i]? = some x) (hv : Vis X.env.scope x) (hd : (x == ("__debug__" : Str)) = false := by decide) (hcd : (x == ("__classdict__" : Str)) = false := by decide) : JB X E H0 (eLook i) (.Name x pos) := by
  refine PE.imp (pe_var hN hv hd hcd) fun σ H Q ⟨G, μ, st, ρ, w, er, p⟩ => ?_
  unfold eLook at p
  cases q : ρ[i]? with
  | none => rw [q] at p; exact p.elim
  | some s =>
    rw [q] at p
    cases s with
    | no => exact p.elim
    | own ds =>
      obtain ⟨a, vs, h1, h2, h3, h4, h5, h6⟩ := er.own i ds q
      exact ⟨_, h1, p _ H G μ w .refl (.inr ⟨a, vs, ds, rfl, rfl, h2, h3, h5⟩)⟩
    | val d =>
      obtain ⟨v, h1, h2⟩ := er.val i d q
      exact ⟨v, h1, p v H G μ w .refl (.inl h2)⟩
def eC (d : D) : En → M D := fun _ => M.pure d
theorem je_c {v : V} {d : D} (h : PE X e (tC v)) (r : ∀ G μ, Rep X.K G μ v d) : JE X E H0 (eC d) e := PE.imp h fun σ H Q ⟨G, μ, st, ρ, w, er, p⟩ => p v H G μ w .refl (r G μ)
theorem je_int {i : Int} {j : Nat} : JE X E H0 (eC (.int i)) (.Constant (.int i) j pos) := je_c pe_int fun _ _ => .int i
theorem je_bl {b : Bool} {j : Nat} : JE X E H0 (eC (.bl b)) (.Constant (.bool b) j pos) := je_c pe_bl fun _ _ => .bl b
theorem je_non {j : Nat} : JE X E H0 (eC .non) (.Constant .none j pos) := je_c pe_non fun _ _ => .non
theorem je_str {x : Str} {j : Nat} : JE X E H0 (eC (.str x)) (.Constant (.str x) j pos) := je_c pe_str fun _ _ => .str x
/-- a module's constant -/
theorem je_glob {x : Str} {v : V} {u : Value} {d : D} (hg : Gl X x) (hm : X.mg x = some u) (r : RelV v u) (rd : ∀ G μ, Rep X.K G μ v d) (hd : (x == ("__debug__" : Str)) = false := by decide) : JE X E H0 (eC d) (.Name x pos) := je_c (pe_glob hg hm r hd) rd

/-! ### operators, by values -/
def e2 (p : D → D → M D) (f g : En → M D) : En → M D := fun ρ => (f ρ).bind fun x => (g ρ).bind fun y => p x y
/-- two operands that may be borrowed -/
def OpJ (X : Cx) (E : XK) (r : R2) (p : D → D → M D) : Prop :=
  ∀ (H G : Hp) (μ : Mu) (st : Sto) (x y : V) (dx dy : D) (Q : VK), Wd X.w X.K H G μ st → BRep X.K H G μ x dx → BRep X.K H G μ y dy → Post X.w X.K X.mg E (rRep X.K) H G μ (p dx dy st) Q → r x y H Q
theorem se2 {r : R2} {p : D → D → M D} (hp : OpJ X E r p) {ta tb : TE} (ha : ∀ σ H Q, Se X E H0 (rBRep X.K) f σ H Q → ta σ H Q) (hb : ∀ σ H Q, Se X E H0 (rBRep X.K) g σ H Q → tb σ H Q) :
    ∀ σ H Q, Se X E H0 (rRep X.K) (e2 p f g) σ H Q → tOp r ta tb σ H Q := by
  intro σ H Q ⟨G, μ, st, ρ, w, er, q⟩
  refine ha _ _ _ ⟨G, μ, st, ρ, w, er, Post.bind q fun dx st1 x H1 G1 μ1 w1 s1 r1 q1 => ?_⟩
  refine hb _ _ _ ⟨G1, μ1, st1, ρ, w1, er.step s1, Post.bind q1 fun dy st2 y H2 G2 μ2 w2 s2 r2 q2 => ?_⟩
  exact hp H2 G2 μ2 st2 x y dx dy Q w2 (r1.step s2).weak r2.weak q2
theorem je_op {op : Operator} {r : R2} {p : D → D → M D} (ho : OpR X (binaryOp op) r) (hp : OpJ X E r p) (ha : JB X E H0 f a) (hb : JB X E H0 g b) : JE X E H0 (e2 p f g) (.BinOp a op b pos) :=
  PE.imp (pe_op ho ha hb) (se2 hp (fun _ _ _ h => h) fun _ _ _ h => h)
theorem je_cmp {op : CmpOp} {r : R2} {p : D → D → M D} (ho : OpR X (compareOp op) r) (hp : OpJ X E r p) (ha : JB X E H0 f a) (hb : JB X E H0 g b) (hm : behindInMarks op b = false) : JE X E H0 (e2 p f g) (.Compare a [op] [b] pos) :=
  PE.imp (pe_cmpR ho ha hb hm) (se2 hp (fun _ _ _ h => h) fun _ _ _ h => h)
theorem je_ix {r : R2} {p : D → D → M D} (ho : IxR X r) (hp : OpJ X E r p) (ha : JB X E H0 f a) (hb : JB X E H0 g b) (hs : PlainIx b) : JE X E H0 (e2 p f g) (.Subscript a b pos) :=
  PE.imp (pe_ix ho ha hb hs) (se2 hp (fun _ _ _ h => h) fun _ _ _ h => h)

/-! ### arguments -/
def aNil : En → M (List D) := fun _ => M.pure []
def aCons (f : En → M D) (g : En → M (List D)) : En → M (List D) := fun ρ => (f ρ).bind fun x => (g ρ).bind fun xs => M.pure (x :: xs)
theorem ja_nil : JA X E H0 aNil [] := PA.imp pa_nil fun σ H Q ⟨G, μ, st, ρ, w, er, p⟩ => p [] H G μ w .refl .nil
theorem ja_cons {es : List Expr} {g : En → M (List D)} (ha : JE X E H0 f e) (hr : JA X E H0 g es) (hs : starEach (e :: es) X.env = (false, eval e X.env) :: starEach es X.env := by rfl) : JA X E H0 (aCons f g) (e :: es) := by
  refine PA.imp (pa_cons ha hr hs) fun σ H Q ⟨G, μ, st, ρ, w, er, q⟩ => ?_
  refine ⟨G, μ, st, ρ, w, er, Post.bind q fun dx st1 x H1 G1 μ1 w1 s1 r1 q1 => ?_⟩
  refine ⟨G1, μ1, st1, ρ, w1, er.step s1, Post.bind q1 fun dy st2 y H2 G2 μ2 w2 s2 r2 q2 => ?_⟩
  exact q2 _ H2 G2 μ2 w2 .refl (.cons (Rep.mono s2.g s2.m r1) r2)

/-! ### displays -/
def line (n : Nat) : M Unit := fun s => if n ≤ sizeLine then .ok () s else .bad
def eTup (g : En → M (List D)) : En → M D := fun ρ => (g ρ).bind fun xs => (line xs.length).bind fun _ => M.pure (.tup xs)
def eLst (g : En → M (List D)) : En → M D := fun ρ => (g ρ).bind fun xs => (line xs.length).bind fun _ => M.pure (.lst xs)
theorem Post.line {α β : Type} {R : RR β α} {H G : Hp} {μ : Mu} {n : Nat} {m : M α} {st : Sto} {Q : β → Hp → Prop} (p : Post X.w X.K X.mg E R H G μ ((line n).bind (fun _ => m) st) Q) : n ≤ sizeLine ∧ Post X.w X.K X.mg E R H G μ (m st) Q := by
  unfold M.bind PL.line at p
  by_cases h : n ≤ sizeLine
  · simp only [if_pos h] at p; exact ⟨h, p⟩
  · simp only [if_neg h] at p; exact p.elim
theorem je_tup {es : List Expr} {g : En → M (List D)} {k : Nat} (h : JA X E H0 g es) : JE X E H0 (eTup g) (.Tuple es k pos) := by
  refine PE.imp (pe_tup h) fun σ H Q ⟨G, μ, st, ρ, w, er, q⟩ => ?_
  refine ⟨G, μ, st, ρ, w, er, Post.bind q fun ds st1 xs H1 G1 μ1 w1 s1 r1 q1 => ?_⟩
  obtain ⟨hl, q1⟩ := q1.line
  refine ⟨by rw [RepL.length r1]; exact hl, fun p hp => ?_⟩
  obtain ⟨w2, s2⟩ := w1.new (o := .tup xs) hp
  exact q1 _ _ _ _ w2 s2 (.tup (.inl (.inl upd_same)) (RepL.mono s2.g s2.m r1))
theorem je_lst {es : List Expr} {g : En → M (List D)} (h : JA X E H0 g es) : JE X E H0 (eLst g) (.List es pos) := by
  refine PE.imp (pe_lst h) fun σ H Q ⟨G, μ, st, ρ, w, er, q⟩ => ?_
  refine ⟨G, μ, st, ρ, w, er, Post.bind q fun ds st1 xs H1 G1 μ1 w1 s1 r1 q1 => ?_⟩
  obtain ⟨hl, q1⟩ := q1.line
  refine ⟨by rw [RepL.length r1]; exact hl, fun p hp => ?_⟩
  obtain ⟨w2, s2⟩ := w1.new (o := .lst xs) hp
  exact q1 _ _ _ _ w2 s2 (.lst upd_same (RepL.mono s2.g s2.m r1))

/-! ### built-in calls with one argument, which may be borrowed -/
def e1 (p : D → M D) (f : En → M D) : En → M D := fun ρ => (f ρ).bind p
def C1J (X : Cx) (E : XK) (r : List V → Hp → VK → Prop) (p : D → M D) : Prop :=
  ∀ (H G : Hp) (μ : Mu) (st : Sto) (x : V) (dx : D) (Q : VK), Wd X.w X.K H G μ st → BRep X.K H G μ x dx → Post X.w X.K X.mg E (rRep X.K) H G μ (p dx st) Q → r [x] H Q
theorem pa_one {ta : TE} (ha : PE X e ta) (hs : starEach [e] X.env = (false, eval e X.env) :: starEach [] X.env := by rfl) : PA X [e] (tCons ta tNil) := pa_cons ha pa_nil hs
theorem se1 {r : List V → Hp → VK → Prop} {p : D → M D} (hp : C1J X E r p) : ∀ σ H Q, Se X E H0 (rRep X.K) (e1 p f) σ H Q → tCB r (tCons (Se X E H0 (rBRep X.K) f) tNil) σ H Q := by
  intro σ H Q ⟨G, μ, st, ρ, w, er, q⟩
  refine ⟨G, μ, st, ρ, w, er, Post.bind q fun dx st1 x H1 G1 μ1 w1 s1 r1 q1 => ?_⟩
  exact hp H1 G1 μ1 st1 x dx Q w1 r1.weak q1
theorem je_callB {x : Str} {id : String} {p0 : Pos} {r : List V → Hp → VK → Prop} {p : D → M D} (hc : CallR X (.builtin id) r) (hp : C1J X E r p) (hg : Gl X x) (hm : X.mg x = none) (hv : bootBuiltins x = some (.builtin id)) (ha : JB X E H0 f e) (hn : x ≠ "__name__" := by decide) (hdb : (x == ("__debug__" : Str)) = false := by decide)
    (hs : starEach [e] X.env = (false, eval e X.env) :: starEach [] X.env := by rfl) (hpl : (backTo pos (starEach [] X.env)).any (·.1) = false := by rfl) : JE X E H0 (e1 p f) (.Call (.Name x p0) [e] [] pos) :=
  PE.imp (pe_callB hc hg hm hv (pa_one ha hs) hn hdb hs hpl) (se1 hp)
theorem je_callTy {x : Str} {T : String} {p0 : Pos} {r : List V → Hp → VK → Prop} {p : D → M D} (hc : CallR X (.type T) r) (hp : C1J X E r p) (hg : Gl X x) (hm : X.mg x = none) (hv : bootBuiltins x = some (.type T)) (ha : JB X E H0 f e) (hn : x ≠ "__name__" := by decide) (hdb : (x == ("__debug__" : Str)) = false := by decide)
    (hs : starEach [e] X.env = (false, eval e X.env) :: starEach [] X.env := by rfl) (hpl : (backTo pos (starEach [] X.env)).any (·.1) = false := by rfl) : JE X E H0 (e1 p f) (.Call (.Name x p0) [e] [] pos) :=
  PE.imp (pe_callTy hc hg hm hv (pa_one ha hs) hn hdb hs hpl) (se1 hp)

/-! ### tests -/
def tBl (f : En → M D) : En → M Bool := fun ρ => (f ρ).bind fun d => match d with
  | .bl b => M.pure b
  | _ => M.bad
/-- a test by an expression that gives a bool -/
theorem jt_val (ha : JE X E H0 f e) (he : ∀ whole, isTrue e X.env whole = (do let v ← whole; standAt e.pos; holding [v] (truthy v)) := by intro _; rfl) : JT X E H0 (tBl f) e := by
  refine PT.imp (pt_val ha he) fun σ H Q ⟨G, μ, st, ρ, w, er, q⟩ => ?_
  refine ⟨G, μ, st, ρ, w, er, Post.bind q fun d st1 x H1 G1 μ1 w1 s1 r1 q1 => ?_⟩
  cases r1 with
  | bl b => exact ⟨b, rfl, q1 _ _ _ _ w1 .refl rfl⟩
  | _ => exact q1.elim
/-- a comparison as a test -/
theorem jt_cmp {op : CmpOp} {r : R2} {p : D → D → M D} (ho : OpR X (compareOp op) r) (hp : OpJ X E r p) (ha : JB X E H0 f a) (hb : JB X E H0 g b) (hm : behindInMarks op b = false) : JT X E H0 (tBl (e2 p f g)) (.Compare a [op] [b] pos) := by
  refine PT.imp (pt_cmpR ho ha hb hm) fun σ H Q ⟨G, μ, st, ρ, w, er, q⟩ => ?_
  refine se2 (f := f) (g := g) (p := p) (E := E) (H0 := H0) hp (fun _ _ _ h => h) (fun _ _ _ h => h) _ _ _ ⟨G, μ, st, ρ, w, er, Post.bind q fun d st1 x H1 G1 μ1 w1 s1 r1 q1 => ?_⟩
  cases r1 with
  | bl b => exact ⟨b, rfl, q1 _ _ _ _ w1 .refl rfl⟩
  | _ => exact q1.elim
def tNt (t : En → M Bool) : En → M Bool := fun ρ => (t ρ).bind fun b => M.pure (!b)
def tAn (t u : En → M Bool) : En → M Bool := fun ρ => (t ρ).bind fun b => if b = true then u ρ else M.pure false
def tOor (t u : En → M Bool) : En → M Bool := fun ρ => (t ρ).bind fun b => if b = true then M.pure true else u ρ
def JW (X : Cx) (E : XK) (H0 : Hp) (f : En → M Bool) (e : Expr) : Prop := PW X e (Se X E H0 rTrue f)
variable {t u : En → M Bool} {rest : List Expr}
theorem PW.imp {e : Expr} {t t' : TT} (h : PW X e t) (q : ∀ σ H Q, t' σ H Q → t σ H Q) : PW X e t' := ⟨fun wh pins s σ H Q I x => h.run wh pins s σ H Q I (q _ _ _ x)⟩
theorem JW.jt (h : JW X E H0 t e) : JT X E H0 t e := PW.pt h
theorem jt_not (ha : JT X E H0 t a) : JT X E H0 (tNt t) (.UnaryOp .Not a pos) := PT.imp (pt_not ha) fun σ H Q ⟨G, μ, st, ρ, w, er, q⟩ =>
  ⟨G, μ, st, ρ, w, er, Post.bind q fun d st1 x H1 G1 μ1 w1 s1 r1 q1 => by cases r1; exact q1 _ _ _ _ w1 .refl rfl⟩
theorem jw_and1 (ha : JT X E H0 t a) : JW X E H0 t (.BoolOp .And [a] pos) := pw_and1 ha
theorem jw_or1 (ha : JT X E H0 t a) : JW X E H0 t (.BoolOp .Or [a] pos) := pw_or1 ha
theorem jw_and (ha : JT X E H0 t a) (hb : JW X E H0 u (.BoolOp .And (b :: rest) pos)) : JW X E H0 (tAn t u) (.BoolOp .And (a :: b :: rest) pos) := PW.imp (pw_and ha hb) fun σ H Q ⟨G, μ, st, ρ, w, er, q⟩ =>
  ⟨G, μ, st, ρ, w, er, Post.bind q fun d st1 x H1 G1 μ1 w1 s1 r1 q1 => by
    cases r1
    cases d with
    | true => exact ⟨G1, μ1, st1, ρ, w1, er.step s1, q1⟩
    | false => exact q1 _ _ _ _ w1 .refl rfl⟩
theorem jw_or (ha : JT X E H0 t a) (hb : JW X E H0 u (.BoolOp .Or (b :: rest) pos)) : JW X E H0 (tOor t u) (.BoolOp .Or (a :: b :: rest) pos) := PW.imp (pw_or ha hb) fun σ H Q ⟨G, μ, st, ρ, w, er, q⟩ =>
  ⟨G, μ, st, ρ, w, er, Post.bind q fun d st1 x H1 G1 μ1 w1 s1 r1 q1 => by
    cases r1
    cases d with
    | false => exact ⟨G1, μ1, st1, ρ, w1, er.step s1, q1⟩
    | true => exact q1 _ _ _ _ w1 .refl rfl⟩
/-! ### .. as values -/
def vAnd (f g : En → M D) : En → M D := fun ρ => (f ρ).bind fun d => match d with
  | .bl true => g ρ
  | .bl false => M.pure (.bl false)
  | _ => M.bad
def vOr (f g : En → M D) : En → M D := fun ρ => (f ρ).bind fun d => match d with
  | .bl true => M.pure (.bl true)
  | .bl false => g ρ
  | _ => M.bad
def vNot (f : En → M D) : En → M D := fun ρ => (f ρ).bind fun d => match d with
  | .bl b => M.pure (.bl (!b))
  | _ => M.bad
theorem je_one {op : BoolOp} (h : JE X E H0 f a) : JE X E H0 f (.BoolOp op [a] pos) := pe_one h
theorem je_and (ha : JE X E H0 f a) (hb : JE X E H0 g (.BoolOp .And (b :: rest) pos)) : JE X E H0 (vAnd f g) (.BoolOp .And (a :: b :: rest) pos) := PE.imp (pe_and ha hb) fun σ H Q ⟨G, μ, st, ρ, w, er, q⟩ =>
  ⟨G, μ, st, ρ, w, er, Post.bind q fun d st1 x H1 G1 μ1 w1 s1 r1 q1 => by
    cases r1 with
    | bl b =>
      refine ⟨b, rfl, ?_⟩
      cases b with
      | true => exact ⟨G1, μ1, st1, ρ, w1, er.step s1, q1⟩
      | false => exact q1 _ _ _ _ w1 .refl (.bl false)
    | _ => exact q1.elim⟩
theorem je_or (ha : JE X E H0 f a) (hb : JE X E H0 g (.BoolOp .Or (b :: rest) pos)) : JE X E H0 (vOr f g) (.BoolOp .Or (a :: b :: rest) pos) := PE.imp (pe_or ha hb) fun σ H Q ⟨G, μ, st, ρ, w, er, q⟩ =>
  ⟨G, μ, st, ρ, w, er, Post.bind q fun d st1 x H1 G1 μ1 w1 s1 r1 q1 => by
    cases r1 with
    | bl b =>
      refine ⟨b, rfl, ?_⟩
      cases b with
      | false => exact ⟨G1, μ1, st1, ρ, w1, er.step s1, q1⟩
      | true => exact q1 _ _ _ _ w1 .refl (.bl true)
    | _ => exact q1.elim⟩
theorem je_not (ha : JE X E H0 f a) : JE X E H0 (vNot f) (.UnaryOp .Not a pos) := PE.imp (pe_not ha) fun σ H Q ⟨G, μ, st, ρ, w, er, q⟩ =>
  ⟨G, μ, st, ρ, w, er, Post.bind q fun d st1 x H1 G1 μ1 w1 s1 r1 q1 => by
    cases r1 with
    | bl b => exact ⟨b, rfl, q1 _ _ _ _ w1 .refl (.bl _)⟩
    | _ => exact q1.elim⟩
def eIf (t : En → M Bool) (f g : En → M D) : En → M D := fun ρ => (t ρ).bind fun b => if b = true then f ρ else g ρ
theorem je_if {c : Expr} (hc : JT X E H0 t c) (ha : JE X E H0 f a) (hb : JE X E H0 g b) : JE X E H0 (eIf t f g) (.IfExp c a b pos) := PE.imp (pe_ifExp hc ha hb) fun σ H Q ⟨G, μ, st, ρ, w, er, q⟩ =>
  ⟨G, μ, st, ρ, w, er, Post.bind q fun d st1 x H1 G1 μ1 w1 s1 r1 q1 => by
    cases r1
    cases d with
    | true => exact ⟨G1, μ1, st1, ρ, w1, er.step s1, q1⟩
    | false => exact ⟨G1, μ1, st1, ρ, w1, er.step s1, q1⟩⟩
end
end PL

set_option linter.all false
set_option maxRecDepth 100000
set_option maxHeartbeats 4000000
/-! PL3: lists that are made; statements; defs. -/
namespace PL
open PySem PySem.Spec L2
variable {wW : World}

section
variable {K : PySem.W.Frag} {H G H1 G1 H0 : Hp} {μ μ1 : Mu} {st : Sto} {ρ : En} {σ : L2.St} {v : V} {d : D}
/-- a list goes out of its owner's hands: it is fixed from now on -/
theorem Wd.freeze (w : Wd wW K H G μ st) {a : Addr} {o : HO} (h : H a = some o) (g : G a = none) (n : ∀ k, μ k ≠ some a) : Wd wW K H (upd G a o) μ st := by
  have sg : Sub G (upd G a o) := fun b u e => by rw [upd_ne (ne_of_none e g)]; exact e
  refine ⟨fun b u e => ?_, fun k x e => ?_, w.inj, w.dom⟩
  · by_cases hb : b = a
    · subst hb; rw [upd_same] at e; cases e; exact h
    · rw [upd_ne hb] at e; exact w.imm _ _ e
  · obtain ⟨b, h1, h2, h3⟩ := w.obj k x e
    have ne : b ≠ a := fun z => n k (z ▸ h1)
    exact ⟨b, h1, by rw [upd_ne ne]; exact h2, h3.mono sg (fun _ _ h => h) fun _ h => h⟩
theorem Stp.freeze (s : Stp H G μ H1 G1 μ1) {a : Addr} {o : HO} (g : G1 a = none) (h0 : H a = none) : Stp H G μ H1 (upd G1 a o) μ1 :=
  ⟨fun b u e => by rw [upd_ne (ne_of_none (s.g _ _ e) g)]; exact s.g _ _ e, s.m, s.fr, s.th, fun b e n => by
    by_cases hb : b = a
    · rw [hb]; exact h0
    · rw [upd_ne hb] at n; exact s.ng b e n, s.nm⟩
theorem subUpd {a : Addr} {o : HO} (g : G a = none) : Sub G (upd G a o) := fun b u e => by rw [upd_ne (ne_of_none e g)]; exact e
theorem Stp.pure_refl : Stp H G μ H G μ := .refl
/-- an object out of the store and out of the fixed part is written -/
theorem Wd.over (w : Wd wW K H G μ st) {a : Addr} {o : HO} (g : G a = none) (n : ∀ k, μ k ≠ some a) : Wd wW K (upd H a o) G μ st := by
  refine ⟨fun b u e => ?_, fun k x e => ?_, w.inj, w.dom⟩
  · rw [upd_ne (fun z => by rw [z, g] at e; cases e)]; exact w.imm _ _ e
  · obtain ⟨b, h1, h2, h3⟩ := w.obj k x e
    have ne : b ≠ a := fun z => n k (z ▸ h1)
    exact ⟨b, h1, h2, h3.mono (fun _ _ h => h) (fun _ _ h => h) fun v hv => by rw [upd_ne ne]; exact hv⟩
theorem Stp.over (s : Stp H G μ H1 G1 μ1) {a : Addr} {o : HO} (h0 : H a = none) : Stp H G μ (upd H1 a o) G1 μ1 :=
  ⟨s.g, s.m, fun b u e n => by rw [upd_ne (ne_of_none e h0)]; exact s.fr b u e n, fun b u e => by
    obtain ⟨u', h'⟩ := s.th b u e
    by_cases hb : b = a
    · subst hb; exact ⟨o, upd_same⟩
    · exact ⟨u', by rw [upd_ne hb]; exact h'⟩, s.ng, s.nm⟩

theorem ER.set (e : ER K H G μ H0 ρ σ) {i : Nat} (hi : i < ρ.length) (r : Rep K G μ v d) : ER K H G μ H0 (ρ.set i (.val d)) (σ.set i (some v)) where
  val := fun j d' q => by
    by_cases h : i = j
    · subst h
      rw [List.getElem?_set_self hi] at q
      cases q
      exact ⟨v, List.getElem?_set_self (by rw [← e.len]; exact hi), r⟩
    · rw [List.getElem?_set_ne h] at q
      rw [List.getElem?_set_ne h]
      exact e.val j d' q
  own := fun j ds q => by
    by_cases h : i = j
    · subst h
      rw [List.getElem?_set_self hi] at q
      cases q
    · rw [List.getElem?_set_ne h] at q
      rw [List.getElem?_set_ne h]
      exact e.own j ds q
  inj := fun j k ds es a q1 q2 z1 z2 => by
    by_cases h : i = j
    · subst h
      rw [List.getElem?_set_self hi] at q1
      cases q1
    · by_cases h' : i = k
      · subst h'
        rw [List.getElem?_set_self hi] at q2
        cases q2
      · rw [List.getElem?_set_ne h] at q1 z1
        rw [List.getElem?_set_ne h'] at q2 z2
        exact e.inj j k ds es a q1 q2 z1 z2
  len := by rw [List.length_set, List.length_set]; exact e.len
  old := e.old
/-- a slot takes a list that was made -/
theorem ER.setOwn (e : ER K H G μ H0 ρ σ) {i : Nat} (hi : i < ρ.length) {a : Addr} {vs : List V} {ds : List D} (h : H a = some (.lst vs)) (r : RepL K G μ vs ds) (g : G a = none) (n : ∀ k, μ k ≠ some a) (h0 : H0 a = none)
    (fresh : ∀ (j : Nat) es, ρ[j]? = some (.own es) → σ[j]? ≠ some (some (.ref a))) : ER K H G μ H0 (ρ.set i (.own ds)) (σ.set i (some (.ref a))) where
  val := fun j d' q => by
    by_cases h : i = j
    · subst h
      rw [List.getElem?_set_self hi] at q
      cases q
    · rw [List.getElem?_set_ne h] at q
      rw [List.getElem?_set_ne h]
      exact e.val j d' q
  own := fun j ds' q => by
    by_cases hj : i = j
    · subst hj
      rw [List.getElem?_set_self hi] at q
      cases q
      exact ⟨a, vs, List.getElem?_set_self (by rw [← e.len]; exact hi), h, r, g, n, h0⟩
    · rw [List.getElem?_set_ne hj] at q
      rw [List.getElem?_set_ne hj]
      exact e.own j ds' q
  inj := fun j k es fs b q1 q2 z1 z2 => by
    have hi' : i < σ.length := by rw [← e.len]; exact hi
    by_cases hj : i = j <;> by_cases hk : i = k
    · exact hj.symm.trans hk
    · subst hj
      rw [List.getElem?_set_self hi'] at z1
      rw [List.getElem?_set_ne hk] at q2 z2
      cases z1
      exact absurd z2 (fresh k fs q2)
    · subst hk
      rw [List.getElem?_set_self hi'] at z2
      rw [List.getElem?_set_ne hj] at q1 z1
      cases z2
      exact absurd z1 (fresh j es q1)
    · rw [List.getElem?_set_ne hj] at q1 z1
      rw [List.getElem?_set_ne hk] at q2 z2
      exact e.inj j k es fs b q1 q2 z1 z2
  len := by rw [List.length_set, List.length_set]; exact e.len
  old := e.old
/-- slot i gives its list out -/
theorem ER.freeze (e : ER K H G μ H0 ρ σ) {i : Nat} {ds : List D} (hi : ρ[i]? = some (.own ds)) {a : Addr} {vs : List V} (ha : σ[i]? = some (some (.ref a))) (h : H a = some (.lst vs)) (r : RepL K G μ vs ds) (g : G a = none) :
    ER K H (upd G a (.lst vs)) μ H0 (ρ.set i (.val (.lst ds))) σ where
  val := fun j d' q => by
    have hl := (List.getElem?_eq_some_iff.mp hi).1
    by_cases h : i = j
    · subst h
      rw [List.getElem?_set_self hl] at q
      cases q
      exact ⟨_, ha, .lst upd_same (r.mono (subUpd g) fun _ _ h => h)⟩
    · rw [List.getElem?_set_ne h] at q
      obtain ⟨v, h1, h2⟩ := e.val j d' q
      exact ⟨v, h1, h2.mono (subUpd g) fun _ _ h => h⟩
  own := fun j es q => by
    have hl := (List.getElem?_eq_some_iff.mp hi).1
    by_cases hj : i = j
    · subst hj
      rw [List.getElem?_set_self hl] at q
      cases q
    · rw [List.getElem?_set_ne hj] at q
      obtain ⟨b, ws, h1, h2, h3, h4, h5, h6⟩ := e.own j es q
      refine ⟨b, ws, h1, h2, h3.mono (subUpd g) fun _ _ h => h, ?_, h5, h6⟩
      rw [upd_ne (fun z => hj (e.inj i j ds es a hi q ha (by rw [h1, z])))]
      exact h4
  inj := fun j k es fs b q1 q2 z1 z2 => by
    have hl := (List.getElem?_eq_some_iff.mp hi).1
    by_cases hj : i = j
    · subst hj
      rw [List.getElem?_set_self hl] at q1
      cases q1
    · by_cases hk : i = k
      · subst hk
        rw [List.getElem?_set_self hl] at q2
        cases q2
      · rw [List.getElem?_set_ne hj] at q1
        rw [List.getElem?_set_ne hk] at q2
        exact e.inj j k es fs b q1 q2 z1 z2
  len := by rw [List.length_set]; exact e.len
  old := e.old
end

/-! ### lists that are made -/
/-- an expression that makes a list -/
def JF (X : Cx) (E : XK) (H0 : Hp) (f : En → M (List D)) (e : Expr) : Prop := PE X e (Se X E H0 (rFresh X.K) f)
def eL (f : En → M (List D)) : En → M D := fun ρ => (f ρ).bind fun ds => M.pure (.lst ds)
section
variable {X : Cx} {E : XK} {H0 : Hp} {e a b : Expr} {f g : En → M D} {fl : En → M (List D)} {pos : Pos}
/-- .. given out at once -/
theorem JF.je (h : JF X E H0 fl e) : JE X E H0 (eL fl) e := PE.imp h fun σ H Q ⟨G, μ, st, ρ, w, er, q⟩ =>
  ⟨G, μ, st, ρ, w, er, Post.raw q fun ds st1 v H1 G1 μ1 w1 s1 r1 q1 => by
    obtain ⟨a, vs, rfl, h1, h2, h3, h4, h5⟩ := r1
    exact q1 _ _ _ _ (w1.freeze h1 h3 h4) (s1.freeze h3 h5) (.lst upd_same (h2.mono (subUpd h3) fun _ _ h => h))⟩
/-- a list display that stays in its maker's hands -/
def fLst (g : En → M (List D)) : En → M (List D) := fun ρ => (g ρ).bind fun xs => (line xs.length).bind fun _ => M.pure xs
theorem jf_lst {es : List Expr} {g : En → M (List D)} (h : JA X E H0 g es) : JF X E H0 (fLst g) (.List es pos) := by
  refine PE.imp (pe_lst h) fun σ H Q ⟨G, μ, st, ρ, w, er, q⟩ => ?_
  refine ⟨G, μ, st, ρ, w, er, Post.bind q fun ds st1 xs H1 G1 μ1 w1 s1 r1 q1 => ?_⟩
  obtain ⟨hl, q1⟩ := q1.line
  refine ⟨by rw [RepL.length r1]; exact hl, fun p hp => ?_⟩
  obtain ⟨w2, s2⟩ := w1.lay (o := .lst xs) hp
  have gp : G1 p = none := none_before w1.imm.th hp
  refine q1 _ _ _ _ w2 s2 ⟨p, xs, rfl, upd_same, r1, gp, fun k e => ?_, hp⟩
  obtain ⟨b, h1, _, h3⟩ := w1.obj k _ (List.getElem?_eq_getElem (w1.dom k p e))
  rw [e] at h1; cases h1
  obtain ⟨u, hu⟩ := h3.there
  rw [hp] at hu; cases hu

/-! ### statements -/
structure Ent where
  H : Hp
  G : Hp
  μ : Mu
inductive Fl where
  | nx | ret (d : D) | brk | ct
/-- what is wanted behind a statement, from the def's entry Φ on -/
def PostS (X : Cx) (E : XK) (Φ : Ent) (Dn : Ends) (r : Res (Fl × En)) : Prop :=
  match r with
  | .ok (fl, ρ') st' => ∀ σ' H' G' μ', Wd X.w X.K H' G' μ' st' → ER X.K H' G' μ' Φ.H ρ' σ' → Stp Φ.H Φ.G Φ.μ H' G' μ' → match fl with
    | .nx => Dn.nx σ' H'
    | .brk => Dn.bk σ' H'
    | .ct => Dn.ct σ' H'
    | .ret d => ∀ v, Rep X.K G' μ' v d → Dn.rt v H'
  | .err x st' => ∀ c dd H' G' μ', Wd X.w X.K H' G' μ' st' → Stp Φ.H Φ.G Φ.μ H' G' μ' → XRep X.K X.mg G' μ' x c dd H' → E c dd H'
  | .bad => False
def SeS (X : Cx) (E : XK) (Φ : Ent) (f : En → M (Fl × En)) : TS := fun Dn σ H =>
  ∃ G μ st ρ, Wd X.w X.K H G μ st ∧ ER X.K H G μ Φ.H ρ σ ∧ Stp Φ.H Φ.G Φ.μ H G μ ∧ PostS X E Φ Dn (f ρ st)
def JS (X : Cx) (E : XK) (Φ : Ent) (f : En → M (Fl × En)) (st : Stmt) : Prop := PS X st (SeS X E Φ f)
def JSs (X : Cx) (E : XK) (Φ : Ent) (f : En → M (Fl × En)) (st : List Stmt) : Prop := PSs X st (SeS X E Φ f)

section
variable {Φ : Ent} {Dn : Ends} {G H : Hp} {μ : Mu}
/-- the way from an expression into what follows in the def -/
theorem PostS.bind {γ δ : Type} {R2 : RR δ γ} {m : M γ} {k : γ → M (Fl × En)} {st : Sto} {Q2 : δ → Hp → Prop} (p : PostS X E Φ Dn (m.bind k st)) (s : Stp Φ.H Φ.G Φ.μ H G μ)
    (h : ∀ a st' v H' G' μ', Wd X.w X.K H' G' μ' st' → Stp H G μ H' G' μ' → Stp Φ.H Φ.G Φ.μ H' G' μ' → R2.r H H' G' μ' v a → PostS X E Φ Dn (k a st') → Q2 v H') : Post X.w X.K X.mg E R2 H G μ (m st) Q2 := by
  unfold M.bind at p
  cases e : m st with
  | ok a st' =>
    rw [e] at p
    exact fun v H' G' μ' w t q => h a st' v H' G' μ' w t (s.trans t) q p
  | err x st' =>
    rw [e] at p
    exact fun c dd H' G' μ' w t q => p c dd H' G' μ' w (s.trans t) q
  | bad => rw [e] at p; exact p
theorem PostS.nx {ρ : En} {st : Sto} {σ' : L2.St} {H' G' : Hp} {μ' : Mu} (p : PostS X E Φ Dn (M.pure (Fl.nx, ρ) st)) (w : Wd X.w X.K H' G' μ' st) (er : ER X.K H' G' μ' Φ.H ρ σ') (s : Stp Φ.H Φ.G Φ.μ H' G' μ') : Dn.nx σ' H' := p σ' H' G' μ' w er s
end

def sNil : En → M (Fl × En) := fun ρ => M.pure (.nx, ρ)
def sSeq (f g : En → M (Fl × En)) : En → M (Fl × En) := fun ρ => (f ρ).bind fun r => match r.1 with
  | .nx => g r.2
  | _ => M.pure r
section
variable {Φ : Ent} {s1 s2 : En → M (Fl × En)} {st0 : Stmt} {rest : List Stmt} {t : En → M Bool}
theorem jss_nil : JSs X E Φ sNil [] := PSs.imp pss_nil fun Dn σ H ⟨G, μ, st, ρ, w, er, s, p⟩ => p σ H G μ w er s
theorem seq_ok {Dn : Ends} {σ : L2.St} {H : Hp} (h : SeS X E Φ (sSeq s1 s2) Dn σ H) : SeS X E Φ s1 { Dn with nx := SeS X E Φ s2 Dn } σ H := by
  obtain ⟨G, μ, st, ρ, w, er, s, p⟩ := h
  refine ⟨G, μ, st, ρ, w, er, s, ?_⟩
  unfold sSeq M.bind at p
  cases e : s1 ρ st with
  | ok a st' =>
    rw [e] at p
    obtain ⟨fl, ρ'⟩ := a
    intro σ' H' G' μ' w' er' s'
    cases fl with
    | nx => exact ⟨G', μ', st', ρ', w', er', s', p⟩
    | ret d => exact p σ' H' G' μ' w' er' s'
    | brk => exact p σ' H' G' μ' w' er' s'
    | ct => exact p σ' H' G' μ' w' er' s'
  | err x st' => rw [e] at p; exact p
  | bad => rw [e] at p; exact p
theorem jss_cons (h1 : JS X E Φ s1 st0) (h2 : JSs X E Φ s2 rest) : JSs X E Φ (sSeq s1 s2) (st0 :: rest) := PSs.imp (pss_cons h1 h2) fun _ _ _ h => seq_ok h
theorem jss_one (h1 : JS X E Φ s1 st0) : JSs X E Φ s1 [st0] := pss_one h1
/-- code that is never come to -/
def sBad : En → M (Fl × En) := fun _ => M.bad
theorem js_bad : JS X E Φ sBad st0 := PS.imp ps_never fun Dn σ H ⟨G, μ, st, ρ, w, er, s, p⟩ => p
theorem jss_bad : JSs X E Φ sBad rest := PSs.imp pss_never fun Dn σ H ⟨G, μ, st, ρ, w, er, s, p⟩ => p
def sPass : En → M (Fl × En) := fun ρ => M.pure (.nx, ρ)
theorem js_pass : JS X E Φ sPass (.Pass pos) := PS.imp ps_pass fun Dn σ H ⟨G, μ, st, ρ, w, er, s, p⟩ => p σ H G μ w er s
def sBrk : En → M (Fl × En) := fun ρ => M.pure (.brk, ρ)
theorem js_brk : JS X E Φ sBrk (.Break pos) := PS.imp ps_break fun Dn σ H ⟨G, μ, st, ρ, w, er, s, p⟩ => p σ H G μ w er s
def sCt : En → M (Fl × En) := fun ρ => M.pure (.ct, ρ)
theorem js_ct : JS X E Φ sCt (.Continue pos) := PS.imp ps_continue fun Dn σ H ⟨G, μ, st, ρ, w, er, s, p⟩ => p σ H G μ w er s
/-- a docstring -/
theorem js_doc {x : Str} {j : Nat} {p' : Pos} : JS X E Φ sPass (.Expr (.Constant (.str x) j p') pos) := PS.imp ps_doc fun Dn σ H ⟨G, μ, st, ρ, w, er, s, p⟩ => p σ H G μ w er s
/-- an expression whose value is dropped -/
def sExpr (f : En → M D) : En → M (Fl × En) := fun ρ => (f ρ).bind fun _ => M.pure (.nx, ρ)
theorem js_expr (he : JB X E Φ.H f e) (hs : swapsWith e none pos.line X.env = pure false := by rfl) : JS X E Φ (sExpr f) (.Expr e pos) := PS.imp (ps_expr he hs) fun Dn σ H ⟨G, μ, st, ρ, w, er, s, p⟩ =>
  ⟨G, μ, st, ρ, w, er, p.bind s fun a st' v H' G' μ' w' s' t' r q => q.nx w' (er.step s') t'⟩
def sRet (f : En → M D) : En → M (Fl × En) := fun ρ => (f ρ).bind fun d => M.pure (.ret d, ρ)
theorem js_ret (he : JE X E Φ.H f e) : JS X E Φ (sRet f) (.Return (some e) pos) := PS.imp (ps_ret he) fun Dn σ H ⟨G, μ, st, ρ, w, er, s, p⟩ =>
  ⟨G, μ, st, ρ, w, er, p.bind s fun a st' v H' G' μ' w' s' t' r q => q σ H' G' μ' w' (er.step s') t' v r⟩
theorem js_retN : JS X E Φ (sRet (eC .non)) (.Return none pos) := PS.imp ps_retN fun Dn σ H ⟨G, μ, st, ρ, w, er, s, p⟩ => p σ H G μ w er s .non .non
/-- i < length: the slot is there -/
def put (i : Nat) (x : Slot) (ρ : En) : M (Fl × En) := if i < ρ.length then M.pure (.nx, ρ.set i x) else M.bad
def sSet (i : Nat) (f : En → M D) : En → M (Fl × En) := fun ρ => (f ρ).bind fun d => put i (.val d) ρ
theorem put_val {i : Nat} {d : D} {v : V} {ρ : En} {σ : L2.St} {st : Sto} {H G : Hp} {μ : Mu} {Dn : Ends} (p : PostS X E Φ Dn (put i (.val d) ρ st)) (w : Wd X.w X.K H G μ st) (er : ER X.K H G μ Φ.H ρ σ) (s : Stp Φ.H Φ.G Φ.μ H G μ) (r : Rep X.K G μ v d) : Dn.nx (σ.set i (some v)) H := by
  unfold put at p
  by_cases h : i < ρ.length
  · rw [if_pos h] at p
    exact p.nx w (er.set h r) s
  · rw [if_neg h] at p
    exact p.elim
theorem js_set {i : Nat} {x : Str} {p' : Pos} (hN : X.N.Nodup) (hi : X.N[i]? = some x) (hx : Loc X.env.scope x) (he : JE X E Φ.H f e) (hs : swapsWith e (some (.Name x p')) pos.line X.env = pure false := by rfl) (hf : X.fn x = true ∨ X.env.scope.names.lookup x = some .local := by first | exact .inl rfl | exact .inr rfl | assumption) :
    JS X E Φ (sSet i f) (.Assign [.Name x p'] e pos) := PS.imp (ps_set hN hi hx he hs hf) fun Dn σ H ⟨G, μ, st, ρ, w, er, s, p⟩ =>
  ⟨G, μ, st, ρ, w, er, p.bind s fun a st' v H' G' μ' w' s' t' r q => put_val q w' (er.step s') t' r⟩
def sOwn (i : Nat) (f : En → M (List D)) : En → M (Fl × En) := fun ρ => (f ρ).bind fun ds => put i (.own ds) ρ
theorem put_own {i : Nat} {ds : List D} {v : V} {ρ : En} {σ : L2.St} {st : Sto} {H0 H G G0 : Hp} {μ μ0 : Mu} {Dn : Ends} (p : PostS X E Φ Dn (put i (.own ds) ρ st)) (w : Wd X.w X.K H G μ st) (er0 : ER X.K H0 G0 μ0 Φ.H ρ σ) (s : Stp H0 G0 μ0 H G μ) (s0 : Stp Φ.H Φ.G Φ.μ H0 G0 μ0)
    (r : Fresh X.K H0 H G μ v ds) : Dn.nx (σ.set i (some v)) H := by
  unfold put at p
  obtain ⟨a, vs, rfl, h1, h2, h3, h4, h5⟩ := r
  by_cases h : i < ρ.length
  · rw [if_pos h] at p
    refine p.nx w ((er0.step s).setOwn h h1 h2 h3 h4 (none_before s0.th h5) fun j es q z => ?_) (s0.trans s)
    obtain ⟨b, ws, z1, z2, _⟩ := er0.own j es q
    rw [z] at z1; cases z1
    rw [h5] at z2; cases z2
  · rw [if_neg h] at p
    exact p.elim
theorem js_own {i : Nat} {x : Str} {p' : Pos} (hN : X.N.Nodup) (hi : X.N[i]? = some x) (hx : Loc X.env.scope x) (he : JF X E Φ.H fl e) (hs : swapsWith e (some (.Name x p')) pos.line X.env = pure false := by rfl) (hf : X.fn x = true ∨ X.env.scope.names.lookup x = some .local := by first | exact .inl rfl | exact .inr rfl | assumption) :
    JS X E Φ (sOwn i fl) (.Assign [.Name x p'] e pos) := PS.imp (ps_set hN hi hx he hs hf) fun Dn σ H ⟨G, μ, st, ρ, w, er, s, p⟩ =>
  ⟨G, μ, st, ρ, w, er, p.bind s fun a st' v H' G' μ' w' s' t' r q => put_own q w' er s' s r⟩
/-- slot i gives its list out, ahead of a statement -/
def frz1 (i : Nat) (ρ : En) : En := match ρ[i]? with
  | some (.own ds) => ρ.set i (.val (.lst ds))
  | _ => ρ
def sFrz (i : Nat) (f : En → M (Fl × En)) : En → M (Fl × En) := fun ρ => f (frz1 i ρ)
theorem frz_ok {i : Nat} {Dn : Ends} {σ : L2.St} {H : Hp} (h : SeS X E Φ (sFrz i s1) Dn σ H) : SeS X E Φ s1 Dn σ H := by
  obtain ⟨G, μ, st, ρ, w, er, s, p⟩ := h
  unfold sFrz frz1 at p
  cases q : ρ[i]? with
  | none => rw [q] at p; exact ⟨G, μ, st, ρ, w, er, s, p⟩
  | some x =>
    rw [q] at p
    cases x with
    | no => exact ⟨G, μ, st, ρ, w, er, s, p⟩
    | val d => exact ⟨G, μ, st, ρ, w, er, s, p⟩
    | own ds =>
      obtain ⟨a, vs, h1, h2, h3, h4, h5, h6⟩ := er.own i ds q
      exact ⟨upd G a (.lst vs), μ, st, _, w.freeze h2 h4 h5, er.freeze q h1 h2 h3 h4, s.freeze h4 h6, p⟩
theorem js_frz {i : Nat} (h : JS X E Φ s1 st0) : JS X E Φ (sFrz i s1) st0 := PS.imp h fun _ _ _ x => frz_ok x
theorem jss_frz {i : Nat} (h : JSs X E Φ s1 rest) : JSs X E Φ (sFrz i s1) rest := PSs.imp h fun _ _ _ x => frz_ok x
def sIf (t : En → M Bool) (f g : En → M (Fl × En)) : En → M (Fl × En) := fun ρ => (t ρ).bind fun b => if b = true then f ρ else g ρ
theorem js_if {c : Expr} {as bs : List Stmt} (hc : JT X E Φ.H t c) (ha : JSs X E Φ s1 as) (hb : JSs X E Φ s2 bs) : JS X E Φ (sIf t s1 s2) (.If c as bs pos) := PS.imp (ps_if hc ha hb) fun Dn σ H ⟨G, μ, st, ρ, w, er, s, p⟩ =>
  ⟨G, μ, st, ρ, w, er, p.bind s fun a st' v H' G' μ' w' s' t' r q => by
    cases r
    cases a with
    | true => exact ⟨G', μ', st', ρ, w', er.step s', t', q⟩
    | false => exact ⟨G', μ', st', ρ, w', er.step s', t', q⟩⟩
end
end
end PL

set_option linter.all false
set_option maxRecDepth 100000
set_option maxHeartbeats 4000000
/-! PL4: calls of own defs, a def by its body, targets, what is walked, for, list comprehensions, append and extend. -/
namespace PL
open PySem PySem.Spec L2
variable {wW : World}

/-! ### a def's promise: it does sem -/
def SpOf (wW : World) (K : PySem.W.Frag) (mg : Str → Option Value) (n : Nat) (sem : List D → M D) : Sp := fun vs H Q E =>
  ∃ G μ st ds, Wd wW K H G μ st ∧ RepL K G μ vs ds ∧ ds.length = n ∧ Post wW K mg E (rRep K) H G μ (sem ds st) Q
/-- no exception -/
def xNo : XK := fun _ _ _ => False
section
variable {X : Cx} {E : XK} {H0 : Hp} {e a b : Expr} {f g : En → M D} {es : List Expr} {ga : En → M (List D)} {pos p : Pos} {x : Str}
def eCall (n : Nat) (sem : List D → M D) (g : En → M (List D)) : En → M D := fun ρ => (g ρ).bind fun ds => if ds.length = n then sem ds else M.bad
theorem se_call {n : Nat} {sem : List D → M D} : ∀ σ H Q, Se X E H0 (rRep X.K) (eCall n sem ga) σ H Q → tCall (SpOf X.w X.K X.mg n sem) [] E (Se X E H0 (rRepL X.K) ga) σ H Q := by
  intro σ H Q ⟨G, μ, st, ρ, w, er, q⟩
  refine ⟨G, μ, st, ρ, w, er, Post.bind q fun ds st1 vs H1 G1 μ1 w1 s1 r1 q1 => ?_⟩
  by_cases h : ds.length = n
  · rw [if_pos h] at q1
    exact ⟨G1, μ1, st1, ds, w1, by rw [List.append_nil]; exact r1, h, q1⟩
  · rw [if_neg h] at q1
    exact q1.elim
theorem je_call {k n : Nat} {fa : Addr} {fd : FuncData} {ps : List Str} {sem : List D → M D} (F : FnOk X.prog X.w X.K X.mg X.base (L2.CX X.prog X.w) k fa fd ps (SpOf X.w X.K X.mg n sem)) (hr : Room k X.A) (hg : Gl X x) (hm : X.mg x = some (.ref fa)) (hk : PySem.W.keepIn X.K (.ref fa) = true) (hb : Binds X.K fd ps [])
    (hx : Passes (L2.CX X.prog X.w) X E) (ha : JA X E H0 ga (e :: es)) (hdb : (x == ("__debug__" : Str)) = false := by decide) (he : starEach (e :: es) X.env = (false, eval e X.env) :: starEach es X.env := by rfl) (hpl : (backTo pos (starEach es X.env)).any (·.1) = false := by rfl) :
    JE X E H0 (eCall n sem ga) (.Call (.Name x p) (e :: es) [] pos) := PE.imp (pe_call F hr hg hm hk hb .nil hx ha hdb he hpl) se_call
theorem je_call0 {k n : Nat} {fa : Addr} {fd : FuncData} {ps : List Str} {sem : List D → M D} (F : FnOk X.prog X.w X.K X.mg X.base (L2.CX X.prog X.w) k fa fd ps (SpOf X.w X.K X.mg n sem)) (hr : Room k X.A) (hg : Gl X x) (hm : X.mg x = some (.ref fa)) (hk : PySem.W.keepIn X.K (.ref fa) = true) (hb : Binds X.K fd ps [])
    (hx : Passes (L2.CX X.prog X.w) X E) (hdb : (x == ("__debug__" : Str)) = false := by decide) :
    JE X E H0 (eCall n sem aNil) (.Call (.Name x p) [] [] pos) := PE.imp (pe_call0 F hr hg hm hk hb .nil hx hdb) fun σ H Q h => by
  obtain ⟨G, μ, st, ρ, w, er, q⟩ := h
  have q' : Post X.w X.K X.mg E (rRep X.K) H G μ ((if ([] : List D).length = n then sem [] else M.bad) st) Q := q
  by_cases h : ([] : List D).length = n
  · rw [if_pos h] at q'
    exact ⟨G, μ, st, [], w, .nil, h, q'⟩
  · rw [if_neg h] at q'
    exact q'.elim
end

/-! ### a def by its body -/
section
variable {P : Program} {w : World} {K : PySem.W.Frag} {mg : Str → Option Value} {base : Heap}
/-- what a body does, run as a call -/
def runB (m : Nat) (f : En → M (Fl × En)) : List D → M D := fun ds => (f (ds.map Slot.val ++ List.replicate (m - ds.length) Slot.no)).bind fun r => match r.1 with
  | .ret d => M.pure d
  | .nx => M.pure .non
  | _ => M.bad
theorem er_start {N : List Str} {H G : Hp} {μ : Mu} {vs : List V} {ds : List D} (r : RepL K G μ vs ds) : ER K H G μ H (ds.map Slot.val ++ List.replicate (N.length - ds.length) Slot.no) (L2.start N vs) where
  val := fun i d q => by
    have hl := RepL.length r
    by_cases h : i < ds.length
    · rw [List.getElem?_append_left (by simpa using h), List.getElem?_map] at q
      cases e : ds[i]? with
      | none => rw [e] at q; cases q
      | some d' =>
        rw [e] at q; cases q
        obtain ⟨v, h1, h2⟩ := r.get e
        refine ⟨v, ?_, h2⟩
        unfold L2.start
        rw [List.getElem?_append_left (by simp [hl, h]), List.getElem?_map, h1]; rfl
    · rw [List.getElem?_append_right (by simpa using h), List.getElem?_replicate] at q
      split at q <;> cases q
  own := fun i d q => by
    by_cases h : i < ds.length
    · rw [List.getElem?_append_left (by simpa using h), List.getElem?_map] at q
      cases e : ds[i]? with
      | none => rw [e] at q; cases q
      | some d' => rw [e] at q; cases q
    · rw [List.getElem?_append_right (by simpa using h), List.getElem?_replicate] at q
      split at q <;> cases q
  inj := fun i j d e a q _ _ _ => by
    by_cases h : i < ds.length
    · rw [List.getElem?_append_left (by simpa using h), List.getElem?_map] at q
      cases e : ds[i]? with
      | none => rw [e] at q; cases q
      | some d' => rw [e] at q; cases q
    · rw [List.getElem?_append_right (by simpa using h), List.getElem?_replicate] at q
      split at q <;> cases q
  len := by unfold L2.start; simp [RepL.length r]
  old := fun _ o h => ⟨o, h⟩
/-- what a def's body may suppose of where it runs -/
structure BCx (P : Program) (w : World) (K : PySem.W.Frag) (mg : Str → Option Value) (base : Heap) (N : List Str) (scope : Scope) (k : Nat) (X : Cx) (E : XK) : Prop where
  prog : X.prog = P
  w : X.w = w
  K : X.K = K
  mg : X.mg = mg
  base : X.base = base
  N : X.N = N
  sc : X.env.scope = scope
  room : Room k X.A
  takes : Takes X fun cls d _ H => E cls d H
  calm : X.calm = true
  own : PassesOwn (model X.prog X.w) X.A X.env X.xe
  fn : X.fn = fun _ => true
theorem def_ok {x qual : Str} {st : Stmt} {fa : Addr} {fd : FuncData} {N ps : List Str} {k : Nat} {f : En → M (Fl × En)} (F : Fun K x qual st fa fd) (S : FnScope N ps (defScope st))
    (body : ∀ (cdv : Value) (A : Around) (outer : List Env) (s : Shared) (H G : Hp) (μ : Mu) (E : XK), Room k (A.deeper (PyProof.Rows.envOfC qual (defScope st) s.heap.objs.size fa cdv)) →
      JSs (cxOf (L2.CX P w) P w K mg base N qual (defScope st) fa cdv A outer s H E) E ⟨H, G, μ⟩ f (defBody st)) :
    FnOk P w K mg base (L2.CX P w) (k + 1) fa fd ps (SpOf w K mg ps.length (runB N.length f)) := by
  refine F.okX S (fun vs H Q E h => ?_) (fun cdv A outer s H vs Q E hr h => ?_)
  · obtain ⟨G, μ, st, ds, _, r, l, _⟩ := h
    rw [RepL.length r, l]
  · obtain ⟨G, μ, st0, ds, wd, r, l, q⟩ := h
    refine ⟨_, body cdv A outer s H G μ E hr, G, μ, st0, _, wd, er_start (N := N) r, .refl, ?_⟩
    unfold runB M.bind at q
    have hN : N.length - ds.length = N.length - ds.length := rfl
    cases e : f (ds.map Slot.val ++ List.replicate (N.length - ds.length) Slot.no) st0 with
    | ok a st' =>
      rw [e] at q
      obtain ⟨fl, ρ'⟩ := a
      intro σ' H' G' μ' w' er' s'
      cases fl with
      | nx => exact q .non H' G' μ' w' s' .non
      | ret d => exact fun v rv => q v H' G' μ' w' s' rv
      | brk => exact q.elim
      | ct => exact q.elim
    | err x st' =>
      rw [e] at q
      exact q
    | bad => rw [e] at q; exact q
/-- .. the same promise by another name of what it does -/
theorem FnOk.sem {k : Nat} {fa : Addr} {fd : FuncData} {ps : List Str} {n : Nat} {s1 s2 : List D → M D} (F : FnOk P w K mg base (L2.CX P w) k fa fd ps (SpOf w K mg n s1)) (h : ∀ ds, ds.length = n → s1 ds = s2 ds) : FnOk P w K mg base (L2.CX P w) k fa fd ps (SpOf w K mg n s2) :=
  F.imp fun vs H Q E ⟨G, μ, st, ds, wd, r, l, q⟩ => ⟨G, μ, st, ds, wd, r, l, by rw [h ds l]; exact q⟩
end
end PL

set_option linter.all false
set_option maxRecDepth 100000
set_option maxHeartbeats 4000000
/-! PL5: targets, what is walked, for, list comprehensions. -/
namespace PL
open PySem PySem.Spec L2
variable {wW : World}

/-! ### targets: a name, or a flat tuple of names -/
inductive Pt where
  | nm (i : Nat) | tp (is : List Nat)
def Pt.slots : Pt → List Nat
  | .nm i => [i]
  | .tp is => is
def setAll : List Nat → List D → En → Option En
  | [], [], ρ => some ρ
  | i :: is, d :: ds, ρ => if i < ρ.length then setAll is ds (ρ.set i (.val d)) else none
  | _, _, _ => none
/-- the items of a sequence that stands still -/
def seqD : D → Option (List D)
  | .tup ds => some ds
  | .lst ds => some ds
  | .frz ds => some ds
  | _ => none
def Pt.set : Pt → D → En → Option En
  | .nm i, d, ρ => if i < ρ.length then some (ρ.set i (.val d)) else none
  | .tp is, .tup ds, ρ => setAll is ds ρ
  | _, _, _ => none
def gNames : List Nat → TGs
  | [] => gNil
  | i :: is => gCons (gName i) (gNames is)
def Pt.g (K : PySem.W.Frag) : Pt → TG
  | .nm i => gName i
  | .tp is => gTup K is.length (gNames is)
section
variable {X : Cx} {E : XK} {H0 H G : Hp} {μ : Mu} {ρ ρ' : En} {σ : L2.St} {st : Sto}
theorem setAll_ok {Q : L2.St → Hp → Prop} : ∀ {is : List Nat} {ds : List D} {vs : List V} {ρ ρ' : En} {σ : L2.St}, setAll is ds ρ = some ρ' → RepL X.K G μ vs ds → ER X.K H G μ H0 ρ σ →
    (∀ σ', ER X.K H G μ H0 ρ' σ' → (∀ ws, (∀ i ∈ is, i ∈ ws) → wipe σ' ws = wipe σ ws) → Q σ' H) → gNames is vs σ H Q
  | [], [], _, ρ, ρ', σ, h, .nil, er, q => by
    unfold setAll at h; cases h
    exact ⟨rfl, q σ er fun _ _ => rfl⟩
  | i :: is, d :: ds, _, ρ, ρ', σ, h, .cons (v := v) (vs := vs) rv rr, er, q => by
    unfold setAll at h
    by_cases hi : i < ρ.length
    · rw [if_pos hi] at h
      refine ⟨v, vs, rfl, setAll_ok h rr (er.set hi rv) fun σ' e' w' => q σ' e' fun ws hm => ?_⟩
      rw [w' ws fun j hj => hm j (List.mem_cons_of_mem _ hj)]
      exact wipe_set (hm i List.mem_cons_self)
    · rw [if_neg hi] at h; cases h
  | [], _ :: _, _, _, _, _, h, _, _, _ => by unfold setAll at h; cases h
  | _ :: _, [], _, _, _, _, h, _, _, _ => by unfold setAll at h; cases h
where
  wipe_set {σ : L2.St} {i : Nat} {x : Option V} : ∀ {ws : List Nat}, i ∈ ws → wipe (σ.set i x) ws = wipe σ ws
    | w :: ws, h => by
      unfold wipe
      by_cases hw : i ∈ ws
      · rw [wipe_set hw]
      · have e : i = w := by
          rcases List.mem_cons.mp h with e | e
          · exact e
          · exact absurd e hw
        subst e
        have : ∀ {vs : List Nat} {τ : L2.St}, i ∉ vs → wipe (τ.set i x) vs = (wipe τ vs).set i x := by
          intro vs
          induction vs with
          | nil => intro τ _; rfl
          | cons v vs ih =>
            intro τ hv
            unfold wipe
            rw [ih fun z => hv (List.mem_cons_of_mem _ z)]
            exact List.set_comm _ _ fun z => hv (z ▸ List.mem_cons_self)
        rw [this hw, List.set_set]
theorem Pt.ok {Q : L2.St → Hp → Prop} {p : Pt} {d : D} {v : V} (h : p.set d ρ = some ρ') (w : Wd X.w X.K H G μ st) (r : Rep X.K G μ v d) (er : ER X.K H G μ H0 ρ σ)
    (q : ∀ σ', ER X.K H G μ H0 ρ' σ' → (∀ ws, (∀ i ∈ p.slots, i ∈ ws) → wipe σ' ws = wipe σ ws) → Q σ' H) : p.g X.K v σ H Q := by
  cases p with
  | nm i =>
    have h' : (if i < ρ.length then some (ρ.set i (.val d)) else none) = some ρ' := by cases d <;> exact h
    by_cases hi : i < ρ.length
    · rw [if_pos hi] at h'
      cases h'
      exact q _ (er.set hi r) fun ws hm => setAll_ok.wipe_set (hm i (List.mem_singleton.mpr rfl))
    · rw [if_neg hi] at h'; cases h'
  | tp is =>
    cases r with
    | @tup a vs ds hs rr =>
      have h' : setAll is ds ρ = some ρ' := h
      have hl : ∀ {is : List Nat} {ds : List D} {ρ ρ' : En}, setAll is ds ρ = some ρ' → ds.length = is.length := by
        intro is
        induction is with
        | nil => intro ds ρ ρ' h; cases ds with
          | nil => rfl
          | cons _ _ => unfold setAll at h; cases h
        | cons i is ih => intro ds ρ ρ' h; cases ds with
          | nil => unfold setAll at h; cases h
          | cons d ds =>
            unfold setAll at h
            split at h
            · exact congrArg (· + 1) (ih h)
            · cases h
      exact ⟨a, vs, rfl, w.imm.sqT hs, by rw [RepL.length rr, hl h'], setAll_ok h' rr er q⟩
    | _ => cases h
end

/-! ### what is walked -/
/-- from (G, μ) on the iterator gives ds, one by one -/
def ItR (wW : World) (K : PySem.W.Frag) (G : Hp) (μ : Mu) (J : It) (ds : List D) : Prop :=
  ds.length ≤ sizeLine ∧ ∀ H1 G1 μ1 st1, Wd wW K H1 G1 μ1 st1 → Sub G G1 → SubM μ μ1 →
    (∀ i, i < ds.length → J.go i H1 ∧ ∀ x H2, J.yld i H1 x H2 → ∃ G2, Wd wW K H2 G2 μ1 st1 ∧ Stp H1 G1 μ1 H2 G2 μ1 ∧ ∃ d, ds[i]? = some d ∧ Rep K G2 μ1 x d) ∧ ∀ i, ds.length ≤ i → J.stop i H1
def rIt (wW : World) (K : PySem.W.Frag) : RR It (List D) := ⟨fun _ _ G μ J ds => ItR wW K G μ J ds, fun _ h => h⟩
def JI (X : Cx) (E : XK) (H0 : Hp) (tg : Expr) (f : En → M (List D)) (iter : Expr) : Prop := PI X tg iter (Se X E H0 (rIt X.w X.K) f)
def opt {α : Type} (o : Option α) : M α := match o with
  | some a => M.pure a
  | none => M.bad
section
variable {X : Cx} {E : XK} {H0 : Hp} {e a b tg iter : Expr} {f g : En → M D} {es : List Expr} {pos p : Pos} {x : Str}
theorem PI.imp {t t' : TI} (h : PI X tg iter t) (q : ∀ σ H R, t' σ H R → t σ H R) : PI X tg iter t' := ⟨fun pins s σ H R I x => h.run pins s σ H R I (q _ _ _ x)⟩
theorem Post.opt {α β γ : Type} {R : RR β α} {H G : Hp} {μ : Mu} {o : Option γ} {k : γ → M α} {st : Sto} {Q : β → Hp → Prop} {K : PySem.W.Frag} {mg : Str → Option Value} (p : Post wW K mg E R H G μ ((opt o).bind k st) Q) : ∃ c, o = some c ∧ Post wW K mg E R H G μ (k c st) Q := by
  cases o with
  | none => exact p.elim
  | some c => exact ⟨c, rfl, p⟩
def charD (c : Nat) : D := .str ⟨#[c]⟩
/-- what is walked of a list or a tuple that stands still, of a text -/
def itD : D → Option (List D)
  | .str s => if s.length ≤ sizeLine then some (s.cps.toList.map charD) else none
  | d => seqD d
def iSeq (f : En → M D) : En → M (List D) := fun ρ => (f ρ).bind fun d => opt (itD d)
theorem its_ok {K : PySem.W.Frag} {G : Hp} {μ : Mu} {s : Str} (hz : s.length ≤ sizeLine) : ItR wW K G μ (Its s) (s.cps.toList.map charD) := by
  refine ⟨by rw [List.length_map, Array.length_toList]; exact hz, fun H1 G1 μ1 st1 w sg sm => ⟨fun i hi => ?_, fun i hi => ?_⟩⟩
  · have hi' : i < s.cps.size := by simpa using hi
    refine ⟨hi', fun x H2 ⟨e, c, hc, ex⟩ => ?_⟩
    subst e ex
    refine ⟨G1, w, .refl, charD c, ?_, .str _⟩
    rw [List.getElem?_map, Array.getElem?_toList, hc]
    rfl
  · show s.cps.size ≤ i
    simpa using hi
theorem itl_ok {K : PySem.W.Frag} {G : Hp} {μ : Mu} {a : Addr} {vs : List V} {ds : List D} (hl : SqL K G a vs) (r : RepL K G μ vs ds) (hz : vs.length ≤ sizeLine) : ItR wW K G μ (Itl K a) ds := by
  refine ⟨by rw [← RepL.length r]; exact hz, fun H1 G1 μ1 st1 w sg sm => ⟨fun i hi => ?_, fun i hi => ?_⟩⟩
  · have h1 : SqL K H1 a vs := (sg.trans w.imm).sqL hl
    obtain ⟨v, hv, rv⟩ := r.get (List.getElem?_eq_getElem hi)
    refine ⟨⟨vs, v, h1, hv⟩, fun x H2 ⟨e, hy⟩ => ?_⟩
    subst e
    have ex : x = v := Option.some.inj ((hy vs h1).symm.trans hv)
    subst ex
    exact ⟨G1, w, .refl, _, List.getElem?_eq_getElem hi, rv.mono sg sm⟩
  · exact ⟨vs, (sg.trans w.imm).sqL hl, by rw [RepL.length r]; exact hi⟩
theorem itt_ok {K : PySem.W.Frag} {G : Hp} {μ : Mu} {a : Addr} {vs : List V} {ds : List D} (hl : SqT K G a vs) (r : RepL K G μ vs ds) (hz : vs.length ≤ sizeLine) : ItR wW K G μ (Itt K a) ds := by
  refine ⟨by rw [← RepL.length r]; exact hz, fun H1 G1 μ1 st1 w sg sm => ⟨fun i hi => ?_, fun i hi => ?_⟩⟩
  · have h1 : SqT K H1 a vs := (sg.trans w.imm).sqT hl
    obtain ⟨v, hv, rv⟩ := r.get (List.getElem?_eq_getElem hi)
    refine ⟨⟨vs, v, h1, hv⟩, fun x H2 ⟨e, hy⟩ => ?_⟩
    subst e
    have ex : x = v := Option.some.inj ((hy vs h1).symm.trans hv)
    subst ex
    exact ⟨G1, w, .refl, _, List.getElem?_eq_getElem hi, rv.mono sg sm⟩
  · exact ⟨vs, (sg.trans w.imm).sqT hl, by rw [RepL.length r]; exact hi⟩
theorem ji_seq (he : JE X E H0 f iter) : JI X E H0 tg (iSeq f) iter := by
  refine ⟨fun pins s σ H R I ⟨G, μ, st, ρ, w, er, q⟩ => ?_⟩
  refine thn (he.run pins s σ H (fun x H1 => ∃ G1 μ1 st1 ds d, Wd X.w X.K H1 G1 μ1 st1 ∧ Rep X.K G1 μ1 x d ∧ itD d = some ds ∧ ∀ J, ItR X.w X.K G1 μ1 J ds → R J H1) I ⟨G, μ, st, ρ, w, er, Post.raw q fun d st1 v H1 G1 μ1 w1 s1 r1 q1 => ?_⟩) fun v s1 ⟨x, H1, I1, rx, G1, μ1, st1, ds, d, w1, r1, hd, q1⟩ => ?_
  · cases e : itD d with
    | none => rw [e] at q1; exact q1.elim
    | some ds =>
      rw [e] at q1
      exact ⟨G1, μ1, st1, ds, d, w1, r1, e, fun J hj => q1 J H1 G1 μ1 w1 s1 hj⟩
  · have goL : ∀ {a : Addr} {vs : List V}, x = .ref a → SqL X.K G1 a vs → RepL X.K G1 μ1 vs ds → wpAny (model X.prog X.w) X.A (pyIter v) (PIE X pins σ tg R) X.xe s1 := fun {a vs} e h r => by
      subst e
      cases rx
      have hq : SqL X.K H1 a vs := w1.imm.sqL h
      obtain ⟨its, rv, pl, hz⟩ := I1.list hq
      refine wpAny_pyIter_list pl.isList ?_
      refine ⟨s1.heap.objs.size, [s1.heap.objs.size], _, _, H1, rfl, I1.kept (t' := s1.toks) fun b o e => Heap.get?_push_of_some _ e, turn_list a _, ⟨_, Heap.get?_push_size _ rfl, rfl, rfl⟩, fun b hb => ?_, q1 _ (itl_ok h r hz)⟩
      have e : b = s1.heap.objs.size := by simpa using hb
      subst e
      exact I1.fpOk (Nat.le_refl _) (I1.hok.fresh (Nat.le_refl _))
    have goT : ∀ {a : Addr} {vs : List V}, x = .ref a → SqT X.K G1 a vs → RepL X.K G1 μ1 vs ds → wpAny (model X.prog X.w) X.A (pyIter v) (PIE X pins σ tg R) X.xe s1 := fun {a vs} e h r => by
      subst e
      cases rx
      have hq : SqT X.K H1 a vs := w1.imm.sqT h
      obtain ⟨its, rv, pl, hz⟩ := I1.tuple hq
      refine wpAny_pyIter_tuple (show s1.heap.IsTuple a its.toArray from pl) ?_
      refine ⟨s1.heap.objs.size, [s1.heap.objs.size], _, _, H1, rfl, I1.kept (t' := s1.toks) fun b o e => Heap.get?_push_of_some _ e, turn_tuple a _, ⟨_, Heap.get?_push_size _ rfl, rfl, rfl⟩, fun b hb => ?_, q1 _ (itt_ok h r hz)⟩
      have e : b = s1.heap.objs.size := by simpa using hb
      subst e
      exact I1.fpOk (Nat.le_refl _) (I1.hok.fresh (Nat.le_refl _))
    cases r1 with
    | tup h r => cases hd; exact goT rfl h r
    | lst h r => cases hd; exact goL rfl (.inl (.inl h)) r
    | frz h r => cases hd; exact goL rfl h r
    | str z =>
      have hd' : (if z.length ≤ sizeLine then some (z.cps.toList.map charD) else none) = some ds := hd
      by_cases hz : z.length ≤ sizeLine
      · rw [if_pos hz] at hd'
        cases hd'
        obtain ⟨tk, rfl⟩ := rx
        have q2 := q1 (Its z) (its_ok hz)
        cases ha : z.cps.all (· < 128) with
        | false =>
          have T := turn_str (P := X.prog) (w := X.w) (K := X.K) (tg := tg) s1.heap.objs.size z tk "str_iterator" (.inr rfl)
          exact wpAny_pyIter_wide ha (pi_one (tk := s1.toks) I1 _ T ⟨_, Heap.get?_push_size _ rfl, rfl, rfl⟩ q2)
        | true =>
          have T := turn_str (P := X.prog) (w := X.w) (K := X.K) (tg := tg) s1.heap.objs.size z tk "str_ascii_iterator" (.inl rfl)
          exact wpAny_pyIter_ascii ha (pi_one (tk := s1.toks) I1 _ T ⟨_, Heap.get?_push_size _ rfl, rfl, rfl⟩ q2)
      · rw [if_neg hz] at hd'; cases hd'
    | _ => cases hd
/-- range(n), range(a, b) -/
def rangeL (lo hi : Int) : M (List D) := fun s => if -(2 ^ 62) ≤ lo ∧ lo < 2 ^ 62 ∧ -(2 ^ 62) ≤ hi ∧ hi < 2 ^ 62 ∧ (hi - lo).toNat ≤ sizeLine then .ok ((List.range (hi - lo).toNat).map fun (i : Nat) => D.int (lo + (i : Int))) s else .bad
def iRange1 (g : En → M (List D)) : En → M (List D) := fun ρ => (g ρ).bind fun ds => match ds with
  | [.int n] => rangeL 0 n
  | _ => M.bad
def iRange2 (g : En → M (List D)) : En → M (List D) := fun ρ => (g ρ).bind fun ds => match ds with
  | [.int a, .int b] => rangeL a b
  | _ => M.bad
theorem itr_ok {K : PySem.W.Frag} {G : Hp} {μ : Mu} {lo : Int} {n : Nat} (hz : n ≤ sizeLine) : ItR wW K G μ (Itr lo n) ((List.range n).map fun (i : Nat) => D.int (lo + (i : Int))) := by
  refine ⟨by simpa using hz, fun H1 G1 μ1 st1 w sg sm => ⟨fun i hi => ?_, fun i hi => ?_⟩⟩
  · have hi' : i < n := by simpa using hi
    refine ⟨hi', fun x H2 ⟨e, ex⟩ => ?_⟩
    subst e ex
    exact ⟨G1, w, .refl, .int (lo + i), by simp [hi'], .int _⟩
  · show n ≤ i
    simpa using hi
theorem Post.range {β : Type} {R : RR β (List D)} {K : PySem.W.Frag} {mg : Str → Option Value} {H G : Hp} {μ : Mu} {lo hi : Int} {st : Sto} {Q : β → Hp → Prop} (p : Post wW K mg E R H G μ (rangeL lo hi st) Q) :
    (-(2 ^ 62) ≤ lo ∧ lo < 2 ^ 62 ∧ -(2 ^ 62) ≤ hi ∧ hi < 2 ^ 62) ∧ (hi - lo).toNat ≤ sizeLine ∧ Post wW K mg E R H G μ (.ok ((List.range (hi - lo).toNat).map fun (i : Nat) => D.int (lo + (i : Int))) st) Q := by
  unfold rangeL at p
  split at p
  · rename_i h
    exact ⟨⟨h.1, h.2.1, h.2.2.1, h.2.2.2.1⟩, h.2.2.2.2, p⟩
  · exact p.elim
theorem ji_range1 {ga : En → M (List D)} (hg : Gl X "range") (hm : X.mg "range" = none) (ha : JA X E H0 ga [a]) (hs : starEach [a] X.env = [(false, eval a X.env)] := by rfl) : JI X E H0 tg (iRange1 ga) (.Call (.Name "range" p) [a] [] pos) := by
  refine PI.imp (pi_range1 hg hm ha hs) fun σ H R ⟨G, μ, st, ρ, w, er, q⟩ => ?_
  refine ⟨G, μ, st, ρ, w, er, Post.raw q fun ds st1 vs H1 G1 μ1 w1 s1 r1 q1 => ?_⟩
  cases r1 with
  | nil => exact q1.elim
  | cons h t =>
    cases t with
    | cons _ _ => cases h <;> exact q1.elim
    | nil =>
      cases h with
      | int n =>
        obtain ⟨⟨_, _, h1, h2⟩, hz, q2⟩ := Post.range q1
        refine ⟨n, rfl, h1, h2, ?_⟩
        rw [Int.sub_zero] at hz q2
        exact q2 _ _ _ _ w1 s1 (itr_ok hz)
      | _ => exact q1.elim
theorem ji_range2 {ga : En → M (List D)} (hg : Gl X "range") (hm : X.mg "range" = none) (ha : JA X E H0 ga [a, b]) (hs : starEach [a, b] X.env = [(false, eval a X.env), (false, eval b X.env)] := by rfl) (hs2 : starEach [b] X.env = [(false, eval b X.env)] := by rfl) : JI X E H0 tg (iRange2 ga) (.Call (.Name "range" p) [a, b] [] pos) := by
  refine PI.imp (pi_range2 hg hm ha hs hs2) fun σ H R ⟨G, μ, st, ρ, w, er, q⟩ => ?_
  refine ⟨G, μ, st, ρ, w, er, Post.raw q fun ds st1 vs H1 G1 μ1 w1 s1 r1 q1 => ?_⟩
  cases r1 with
  | nil => exact q1.elim
  | cons h t =>
    cases t with
    | nil => cases h <;> exact q1.elim
    | cons h2 t =>
      cases t with
      | cons _ _ => cases h <;> cases h2 <;> exact q1.elim
      | nil =>
        cases h with
        | int lo =>
          cases h2 with
          | int hi =>
            obtain ⟨hb, hz, q2⟩ := Post.range q1
            exact ⟨lo, hi, rfl, hb, q2 _ _ _ _ w1 s1 (itr_ok hz)⟩
          | _ => exact q1.elim
        | _ => cases h2 <;> exact q1.elim

/-! ### for -/
def forL (bd : D → En → M (Fl × En)) : List D → En → M (Fl × En)
  | [], ρ => M.pure (.nx, ρ)
  | d :: ds, ρ => (bd d ρ).bind fun r => match r.1 with
    | .nx => forL bd ds r.2
    | .ct => forL bd ds r.2
    | .brk => M.pure (.nx, r.2)
    | .ret x => M.pure (.ret x, r.2)
def sFor (it : En → M (List D)) (p : Pt) (bd : En → M (Fl × En)) : En → M (Fl × En) := fun ρ => (it ρ).bind fun ds => forL (fun d ρ => (opt (p.set d ρ)).bind bd) ds ρ
section
variable {Φ : Ent} {it : En → M (List D)} {pt : Pt} {bd : En → M (Fl × En)} {body : List Stmt}
theorem PostS.opt {γ : Type} {o : Option γ} {k : γ → M (Fl × En)} {st : Sto} {Dn : Ends} (p : PostS X E Φ Dn ((opt o).bind k st)) : ∃ c, o = some c ∧ PostS X E Φ Dn (k c st) := by
  cases o with
  | none => exact p.elim
  | some c => exact ⟨c, rfl, p⟩
theorem Stp.sub {H G H1 G1 H2 G2 : Hp} {μ μ1 μ2 : Mu} (s : Stp H G μ H1 G1 μ1) (t : Stp H G1 μ1 H2 G2 μ2) : Stp H G μ H2 G2 μ2 where
  g := s.g.trans t.g
  m := fun n a h => t.m n a (s.m n a h)
  fr := fun a o h n => t.fr a o h fun k e => by
    cases q : μ k with
    | some b => have := s.m k b q; rw [e] at this; cases this; exact n k q
    | none => have := s.nm k a q e; rw [h] at this; cases this
  th := t.th
  ng := fun a e n => by
    cases q : G1 a with
    | some o => exact s.ng a e (by rw [q]; simp)
    | none => exact t.ng a q n
  nm := fun k a e n => by
    cases q : μ1 k with
    | some b => have := t.m k b q; rw [n] at this; cases this; exact s.nm k a e q
    | none => exact t.nm k a q n
theorem Stp.here {H G H1 G1 : Hp} {μ μ1 : Mu} (s : Stp H G μ H1 G1 μ1) : Stp H G1 μ1 H1 G1 μ1 where
  g := fun _ _ h => h
  m := fun _ _ h => h
  fr := fun a o h n => s.fr a o h fun k e => n k (s.m k a e)
  th := s.th
  ng := fun _ e n => absurd e n
  nm := fun _ _ e n => by rw [e] at n; cases n
theorem js_for (hp : PassesOwn (model X.prog X.w) X.A X.env X.xe) (hc : X.calm = true) (hi : JI X E Φ.H tg it iter) (hg : PG X tg (pt.g X.K)) (hb : ∀ G μ, JSs X E ⟨Φ.H, G, μ⟩ bd body)
    (hs : ∀ x, foldedSetIterable iter X.env x = pure x := by intro _; rfl) : JS X E Φ (sFor it pt bd) (.For tg iter body [] pos) := by
  refine ⟨fun pins s0 σ H Dn I ⟨G, μ, st, ρ, w, er, s, q⟩ => ?_⟩
  refine (ps_for hp hc hi hg (PSs.imp (t := fun Dn σ H => ∃ G μ, SeS X E ⟨Φ.H, G, μ⟩ bd Dn σ H) (t' := fun Dn σ H => ∃ G μ, SeS X E ⟨Φ.H, G, μ⟩ bd Dn σ H) ⟨fun pins s σ H D I ⟨G, μ, h⟩ => (hb G μ).run pins s σ H D I h⟩ fun _ _ _ h => h) hs).run pins s0 σ H Dn I ?_
  refine ⟨G, μ, st, ρ, w, er, PostS.bind q s fun ds st1 J H1 G1 μ1 w1 s1 t1 r1 q1 => ?_⟩
  obtain ⟨hz, hJ⟩ := r1
  have tT := Stp.here t1
  let W : Nat → Nat → L2.St → Hp → Prop := fun i m σ H => m = ds.length - i ∧ i ≤ ds.length ∧ ∃ G μ st ρ, Wd X.w X.K H G μ st ∧ ER X.K H G μ Φ.H ρ σ ∧ Stp Φ.H G1 μ1 H G μ ∧ PostS X E Φ Dn (forL (fun d ρ => (PL.opt (pt.set d ρ)).bind bd) (ds.drop i) ρ st)
  refine ⟨W, ⟨ds.length, by simp, Nat.zero_le _, G1, μ1, st1, ρ, w1, er.step s1, tT, q1⟩, ?_⟩
  rintro i m σ H ⟨rfl, hi, G, μ, st, ρ, w, er, t, q⟩
  obtain ⟨hgo, hstop⟩ := hJ H G μ st w t.g t.m
  by_cases hlt : i < ds.length
  · obtain ⟨go, hy⟩ := hgo i hlt
    refine .inr ⟨go, W (i + 1) (ds.length - (i + 1)), fun σ' H' h => ⟨_, by omega, h⟩, fun x H2 hx => ?_⟩
    obtain ⟨G2, w2, s2, d, hd, rd⟩ := hy x H2 hx
    rw [List.drop_eq_getElem_cons hlt] at q
    have ed : ds[i] = d := Option.some.inj ((List.getElem?_eq_getElem hlt).symm.trans hd)
    rw [ed] at q
    unfold forL at q
    rw [M.bind_assoc] at q
    obtain ⟨ρ2, hset, q⟩ := PostS.opt q
    have t2 : Stp Φ.H G1 μ1 H2 G2 μ := t.trans s2
    refine Pt.ok hset w2 rd (er.step s2) fun σ2 er2 _ => ⟨G1, μ1, G2, μ, st, ρ2, w2, er2, t2, ?_⟩
    unfold M.bind at q
    cases e : bd ρ2 st with
    | bad => rw [e] at q; exact q.elim
    | err x st' =>
      rw [e] at q
      exact fun c dd H' G' μ' w' s' r' => q c dd H' G' μ' w' (t1.sub s') r'
    | ok a st' =>
      rw [e] at q
      obtain ⟨fl, ρ'⟩ := a
      intro σ' H' G' μ' w' er' s'
      cases fl with
      | nx => exact ⟨rfl, hlt, G', μ', st', ρ', w', er', s', q⟩
      | ct => exact ⟨rfl, hlt, G', μ', st', ρ', w', er', s', q⟩
      | brk => exact q σ' H' G' μ' w' er' (t1.sub s')
      | ret d => exact q σ' H' G' μ' w' er' (t1.sub s')
  · have e : i = ds.length := by omega
    subst e
    rw [List.drop_length] at q
    exact .inl ⟨hstop _ (Nat.le_refl _), q σ H G μ w er (t1.sub t)⟩
end
end
end PL

set_option linter.all false
set_option maxRecDepth 100000
set_option maxHeartbeats 4000000
/-! PL6: list comprehensions with one clause. -/
namespace PL
open PySem PySem.Spec L2
variable {wW : World}

/-- no exception may leave m -/
def noX {α : Type} (m : M α) : M α := fun s => match m s with
  | .err _ _ => .bad
  | r => r
theorem noX_bind {α β : Type} (m : M α) (f : α → M β) : noX (m.bind f) = (noX m).bind fun a => noX (f a) := by
  funext s
  show (match (M.bind m f) s with | .err _ _ => .bad | r => r) = (M.bind (noX m) fun a => noX (f a)) s
  unfold M.bind noX
  cases m s <;> rfl
theorem noX_pure {α : Type} (a : α) : noX (M.pure a) = M.pure a := rfl
theorem noX_opt {α : Type} (o : Option α) : noX (opt o) = opt o := by cases o <;> rfl
theorem noX_bad {α : Type} : noX (M.bad : M α) = M.bad := rfl
theorem noX_noX {α : Type} (m : M α) : noX (noX m) = noX m := by
  funext s; unfold noX; cases m s <;> rfl
def wipeE (ρ : En) : List Nat → En
  | [] => ρ
  | v :: vs => (wipeE ρ vs).set v .no
def lcL (set : D → En → Option En) (tt : En → M Bool) (te : En → M D) (ρ : En) : List D → M (List D)
  | [] => M.pure []
  | d :: ds => (opt (set d ρ)).bind fun ρ' => (tt ρ').bind fun b => if b = true then (te ρ').bind fun y => (lcL set tt te ρ ds).bind fun ys => M.pure (y :: ys) else lcL set tt te ρ ds
def eLc (it : En → M (List D)) (p : Pt) (vs : List Nat) (tt : En → M Bool) (te : En → M D) : En → M (List D) := fun ρ => (it ρ).bind fun ds => noX (lcL p.set tt te (wipeE ρ vs) ds)
def tTrue : En → M Bool := fun _ => M.pure true
section
variable {K : PySem.W.Frag} {mg : Str → Option Value} {E : XK} {H G HB GB H0 : Hp} {μ μB : Mu} {ρ : En} {σ : L2.St}
theorem Post.nbind {α β γ δ : Type} {R : RR β α} {R2 : RR δ γ} {m : M γ} {f : γ → M α} {st : Sto} {Q : β → Hp → Prop} {Q2 : δ → Hp → Prop} (p : Post wW K mg E R HB GB μB ((noX m).bind f st) Q)
    (h : ∀ a st' v H' G' μ', Wd wW K H' G' μ' st' → Stp H G μ H' G' μ' → R2.r H H' G' μ' v a → Post wW K mg E R HB GB μB (f a st') Q → Q2 v H') : Post wW K mg xNo R2 H G μ (m st) Q2 := by
  unfold M.bind noX at p
  cases e : m st with
  | ok a st' =>
    rw [e] at p
    exact fun v H' G' μ' w t q => h a st' v H' G' μ' w t q p
  | err x st' =>
    rw [e] at p
    exact p.elim
  | bad => rw [e] at p; exact p.elim
theorem ER.no1 (e : ER K H G μ H0 ρ σ) (v : Nat) : ER K H G μ H0 (ρ.set v .no) (σ.set v none) where
  val := fun j d q => by
    by_cases h : v = j
    · subst h
      by_cases hl : v < ρ.length
      · rw [List.getElem?_set_self hl] at q; cases q
      · rw [List.getElem?_eq_none (by rw [List.length_set]; omega)] at q; cases q
    · rw [List.getElem?_set_ne h] at q ⊢
      exact e.val j d q
  own := fun j d q => by
    by_cases h : v = j
    · subst h
      by_cases hl : v < ρ.length
      · rw [List.getElem?_set_self hl] at q; cases q
      · rw [List.getElem?_eq_none (by rw [List.length_set]; omega)] at q; cases q
    · rw [List.getElem?_set_ne h] at q ⊢
      exact e.own j d q
  inj := fun j k ds es a q1 q2 z1 z2 => by
    have no : ∀ (ds : List D), (ρ.set v Slot.no)[v]? ≠ some (.own ds) := fun ds q => by
      by_cases hl : v < ρ.length
      · rw [List.getElem?_set_self hl] at q; cases q
      · rw [List.getElem?_eq_none (by rw [List.length_set]; omega)] at q; cases q
    by_cases h : v = j
    · subst h; exact absurd q1 (no ds)
    · by_cases h' : v = k
      · subst h'; exact absurd q2 (no es)
      · rw [List.getElem?_set_ne h] at q1 z1
        rw [List.getElem?_set_ne h'] at q2 z2
        exact e.inj j k ds es a q1 q2 z1 z2
  len := by rw [List.length_set, List.length_set]; exact e.len
  old := e.old
theorem ER.wipe (e : ER K H G μ H0 ρ σ) : ∀ vs : List Nat, ER K H G μ H0 (wipeE ρ vs) (L2.wipe σ vs)
  | [] => e
  | v :: vs => (ER.wipe e vs).no1 v
end
section
variable {X : Cx} {E : XK} {H0 : Hp} {it : En → M (List D)} {pt : Pt} {vs : List Nat} {tt : En → M Bool} {te : En → M D}
theorem wipe_none : ∀ {vs : List Nat} {σ : L2.St} {v : Nat}, v ∈ vs → (L2.wipe σ vs).set v none = L2.wipe σ vs
  | w :: vs, σ, v, h => by
    unfold L2.wipe
    by_cases e : v = w
    · subst e; rw [List.set_set]
    · have hm : v ∈ vs := (List.mem_cons.mp h).resolve_left e
      rw [List.set_comm _ _ (fun z => e z.symm), wipe_none hm]
theorem wipe_sub : ∀ (ws vs : List Nat) (σ : L2.St), (∀ v ∈ ws, v ∈ vs) → L2.wipe (L2.wipe σ vs) ws = L2.wipe σ vs
  | [], _, _, _ => rfl
  | w :: ws, vs, σ, h => by
    show (L2.wipe (L2.wipe σ vs) ws).set w none = _
    rw [wipe_sub ws vs σ fun v hv => h v (List.mem_cons_of_mem _ hv), wipe_none (h w List.mem_cons_self)]
theorem wipe_idem (vs : List Nat) (σ : L2.St) : L2.wipe (L2.wipe σ vs) vs = L2.wipe σ vs := wipe_sub vs vs σ fun _ h => h
theorem lc_read (hv : ∀ i ∈ pt.slots, i ∈ vs) : ∀ (σ : L2.St) (H : Hp) (Q : VK), Se X E H0 (rFresh X.K) (eLc it pt vs tt te) σ H Q →
    tLc (Se X E H0 (rIt X.w X.K) it) (pt.g X.K) (Se X xNo H0 rTrue tt) (Se X xNo H0 (rRep X.K) te) vs σ H Q := by
  intro σ H Q ⟨G, μ, st, ρ, w, er, q⟩
  refine ⟨G, μ, st, ρ, w, er, Post.raw q fun ds st1 J H1 G1 μ1 w1 s1 r1 q0 => ?_⟩
  intro L hL
  obtain ⟨hz, hJ⟩ := r1
  have q1 := q0.step s1
  have er1 : ER X.K H1 G1 μ1 H0 (wipeE ρ vs) (L2.wipe σ vs) := (er.step s1).wipe vs
  have g1L : G1 L = none := none_before w1.imm.th hL
  obtain ⟨wL, sL⟩ := w1.lay (o := .lst []) hL
  have nL : ∀ n, μ1 n ≠ some L := fun k e => by
    obtain ⟨b, h1, _, h3⟩ := w1.obj k _ (List.getElem?_eq_getElem (w1.dom k L e))
    rw [e] at h1; cases h1
    obtain ⟨u, hu⟩ := h3.there
    rw [hL] at hu; cases hu
  -- L stays out of the fixed part and of the store
  have gL : ∀ {H' G' : Hp} {μ' : Mu}, Stp H1 G1 μ1 H' G' μ' → G1 L = none := fun _ => g1L
  let In : Nat → Hp → Prop := fun i H => ∃ G μ st acc accD, Wd X.w X.K H G μ st ∧ Stp H1 G1 μ1 H G μ ∧ H L = some (.lst acc) ∧ RepL X.K G μ acc accD ∧ G L = none ∧ (∀ n, μ n ≠ some L) ∧ acc.length ≤ i ∧
    Post X.w X.K X.mg E (rFresh X.K) H1 G1 μ1 (((noX (lcL pt.set tt te (wipeE ρ vs) (ds.drop i))).bind fun ys => M.pure (accD ++ ys)) st) Q
  refine ⟨fun i m H => m = ds.length - i ∧ i ≤ ds.length ∧ In i H, ⟨ds.length, by simp, Nat.zero_le _, G1, μ1, st1, [], [], wL, sL, upd_same, .nil, g1L, nL, Nat.zero_le _, ?_⟩, ?_⟩
  · show Post _ _ _ _ _ _ _ _ (((noX (lcL pt.set tt te (wipeE ρ vs) ds)).bind fun ys => M.pure ([] ++ ys)) st1) Q
    have e : (fun ys : List D => (M.pure ([] ++ ys) : M (List D))) = M.pure := rfl
    rw [e, M.bind_pure]
    exact q1
  · rintro i m H ⟨rfl, hi, G, μ, st, acc, accD, w, s, hH, ra, gL, nL, hacc, q⟩
    obtain ⟨hgo, hstop⟩ := hJ H G μ st w s.g s.m
    by_cases hlt : i < ds.length
    · obtain ⟨go, hy⟩ := hgo i hlt
      refine .inr ⟨go, In (i + 1), fun H' h => ⟨_, by omega, rfl, hlt, h⟩, fun x H2 hx => ?_⟩
      obtain ⟨G2, w2, s2, d, hd, rd⟩ := hy x H2 hx
      rw [List.drop_eq_getElem_cons hlt] at q
      have ed : ds[i] = d := Option.some.inj ((List.getElem?_eq_getElem hlt).symm.trans hd)
      rw [ed] at q
      unfold lcL at q
      rw [noX_bind, noX_opt, M.bind_assoc] at q
      obtain ⟨ρ2, hset, q⟩ := Post.opt q
      have t2 := s.trans s2
      refine Pt.ok hset w2 rd (er1.step t2) fun σ2 er2 hw => ⟨(hw vs hv).trans (wipe_idem vs σ), ?_⟩
      rw [noX_bind, M.bind_assoc] at q
      refine ⟨G2, μ, st, ρ2, w2, er2, Post.nbind q fun b st3 b' H3 G3 μ3 w3 s3 r3 q3 => ?_⟩
      cases r3
      have keep : ∀ {H' G' : Hp} {μ' : Mu}, Stp H G μ H' G' μ' → H' L = some (.lst acc) ∧ RepL X.K G' μ' acc accD ∧ G' L = none ∧ ∀ n, μ' n ≠ some L := fun {H' G' μ'} z => by
        refine ⟨z.fr L _ hH nL, ra.mono z.g z.m, ?_, fun n e => ?_⟩
        · cases e : G' L with
          | none => rfl
          | some o => have := z.ng L gL (by rw [e]; simp); rw [hH] at this; cases this
        · cases e' : μ n with
          | some b => have := z.m n b e'; rw [e] at this; cases this; exact nL n e'
          | none => have := z.nm n L e' e; rw [hH] at this; cases this
      cases b with
      | false =>
        obtain ⟨k1, k2, k3, k4⟩ := keep (s2.trans s3)
        exact ⟨G3, μ3, st3, acc, accD, w3, t2.trans s3, k1, k2, k3, k4, by omega, q3⟩
      | true =>
        have q3' : Post X.w X.K X.mg E (rFresh X.K) H1 G1 μ1 (((noX ((te ρ2).bind fun y => (lcL pt.set tt te (wipeE ρ vs) (ds.drop (i + 1))).bind fun ys => M.pure (y :: ys))).bind fun ys => M.pure (accD ++ ys)) st3) Q := q3
        rw [noX_bind, M.bind_assoc] at q3'
        refine ⟨G3, μ3, st3, ρ2, w3, er2.step s3, Post.nbind q3' fun dy st4 y H4 G4 μ4 w4 s4 r4 q4 => ?_⟩
        obtain ⟨k1, k2, k3, k4⟩ := keep ((s2.trans s3).trans s4)
        refine ⟨acc, k1, by omega, G4, μ4, st4, acc ++ [y], accD ++ [dy], w4.over k3 k4, ((t2.trans s3).trans s4).over hL, upd_same, k2.append (.cons r4 .nil), k3, k4, by rw [List.length_append, List.length_singleton]; omega, ?_⟩
        rw [noX_bind, M.bind_assoc] at q4
        have e : (fun a : List D => (noX (M.pure (dy :: a))).bind fun ys => M.pure (accD ++ ys)) = fun ys => M.pure ((accD ++ [dy]) ++ ys) := by
          funext ys
          rw [noX_pure, M.pure_bind, List.append_assoc]
          rfl
        rw [e] at q4
        exact q4
    · have e : i = ds.length := by omega
      subst e
      rw [List.drop_length] at q
      refine .inl ⟨hstop _ (Nat.le_refl _), ?_⟩
      have q' : Post X.w X.K X.mg E (rFresh X.K) H1 G1 μ1 (M.pure (accD ++ []) st) Q := q
      rw [List.append_nil] at q'
      exact q' (.ref L) H G μ w s ⟨L, acc, rfl, hH, ra, gL, nL, hL⟩
variable {elt tg iter : Expr} {ifs : List Expr} {scope : Scope} {own : List (Str × Nat)} {pos : Pos}
/-- the tests of a clause -/
def JTs (X : Cx) (E : XK) (H0 : Hp) (f : En → M Bool) (es : List Expr) : Prop := PTs X es (Se X E H0 rTrue f)
theorem jts_nil : JTs X E H0 tTrue [] := ⟨fun pins s σ H Q I ⟨G, μ, st, ρ, w, er, p⟩ => (pts_nil).run pins s σ H Q I (p true H G μ w .refl rfl)⟩
theorem jts_one {c : Expr} (h : JT X E H0 tt c) : JTs X E H0 tt [c] := pts_one h
theorem jf_lc (hc : X.calm = true) (hN : X.N.Nodup) (hi : JI X E H0 tg it iter) (ok : BlkOk X.N X.env.scope scope own) (hv : ∀ i ∈ pt.slots, i ∈ own.map (·.2))
    (hg : ∀ (s : Shared) (H : Hp) (C : Addr) (cl : List (Str × Addr)) (fp : List Addr), PG (X.blk s H scope (compEnvC scope cl C X.env) fp) tg (pt.g X.K))
    (ht : ∀ (s : Shared) (H : Hp) (C : Addr) (cl : List (Str × Addr)) (fp : List Addr), JTs (X.blk s H scope (compEnvC scope cl C X.env) fp) xNo H0 tt ifs)
    (he : ∀ (s : Shared) (H : Hp) (C : Addr) (cl : List (Str × Addr)) (fp : List Addr), JE (X.blk s H scope (compEnvC scope cl C X.env) fp) xNo H0 te elt) (hs : ∀ x, foldedSetIterable iter X.env x = pure x := by intro _; rfl) :
    JF X E H0 (eLc it pt (own.map (·.2)) tt te) (.ListComp elt [⟨tg, iter, ifs, 0⟩] scope pos) := PE.imp (pe_lc (tt := Se X xNo H0 rTrue tt) (te := Se X xNo H0 (rRep X.K) te) hc hN hi ok hg ht he hs) (lc_read hv)
/-- name = [..] on one line, the name a local of the def alone -/
theorem js_ownLc {Φ : Ent} {i : Nat} {y : Str} {py spos : Pos} (hc : X.calm = true) (hN : X.N.Nodup) (hy : X.N[i]? = some y) (hyl : X.env.scope.names.lookup y = some .local)
    (hsw : swapsWith (.ListComp elt [⟨tg, iter, ifs, 0⟩] scope pos) (some (.Name y py)) spos.line X.env = pure true) (hi : JI X E Φ.H tg it iter) (ok : BlkOk X.N X.env.scope scope own) (hv : ∀ i ∈ pt.slots, i ∈ own.map (·.2))
    (hg : ∀ (s : Shared) (H : Hp) (C : Addr) (cl : List (Str × Addr)) (fp : List Addr), PG (X.blk s H scope (compEnvC scope cl C X.env) fp) tg (pt.g X.K))
    (ht : ∀ (s : Shared) (H : Hp) (C : Addr) (cl : List (Str × Addr)) (fp : List Addr), JTs (X.blk s H scope (compEnvC scope cl C X.env) fp) xNo Φ.H tt ifs)
    (he : ∀ (s : Shared) (H : Hp) (C : Addr) (cl : List (Str × Addr)) (fp : List Addr), JE (X.blk s H scope (compEnvC scope cl C X.env) fp) xNo Φ.H te elt) (hs : ∀ x, foldedSetIterable iter X.env x = pure x := by intro _; rfl) :
    JS X E Φ (sOwn i (eLc it pt (own.map (·.2)) tt te)) (.Assign [.Name y py] (.ListComp elt [⟨tg, iter, ifs, 0⟩] scope pos) spos) := by
  refine PS.imp (ps_setLc (tt := Se X xNo Φ.H rTrue tt) (te := Se X xNo Φ.H (rRep X.K) te) hc hN hy hyl hsw hi ok hg ht he hs) fun Dn σ H ⟨G, μ, st, ρ, w, er, s, p⟩ => ?_
  refine lc_read hv _ _ _ ⟨G, μ, st, ρ, w, er, p.bind s fun ds st' v H' G' μ' w' s' t' r q => ?_⟩
  exact put_own q w' er s' s r
end
end PL

set_option linter.all false
set_option maxRecDepth 100000
set_option maxHeartbeats 4000000
/-! PL7: operators, comparisons, subscripts, slices, len, isinstance, all, any over data. -/
namespace PL
open PySem PySem.Spec L2
variable {wW : World}

mutual
def D.py : D → PyData
  | .non => .none
  | .bl b => .bool b
  | .int i => .int i
  | .str x => .str x
  | .tup ds => .tuple (pyL ds)
  | .lst ds => .list (pyL ds)
  | .frz ds => .list (pyL ds)
  | .ref _ => .dict []
def pyL : List D → List PyData
  | [] => []
  | d :: ds => d.py :: pyL ds
end
theorem pyL_map : ∀ ds : List D, pyL ds = ds.map D.py
  | [] => by unfold pyL; rfl
  | d :: ds => by unfold pyL; rw [pyL_map ds]; rfl
/-- data that may be compared: no object of the store, at most 64 deep, texts of real signs -/
def D.shp (d : D) : Bool := SeqAt.shaped d.py
def D.eqv (d e : D) : Bool := PyData.eqv d.py e.py
section
variable {K : PySem.W.Frag} {G H : Hp} {μ : Mu}
mutual
theorem Rep.dp (s : Sub G H) : ∀ {v : V} {d : D}, Rep K G μ v d → d.py.canLay0 = true → Dp K H v d.py
  | _, .non, .non, _ => by unfold D.py; exact .non
  | _, .bl b, .bl _, _ => by unfold D.py; exact .bl b
  | _, .int i, .int _, _ => by unfold D.py; exact .int i
  | _, .str x, .str _, _ => by unfold D.py; exact .str x
  | _, .tup ds, .tup h r, c => by
    unfold D.py
    exact .tup (s.sqT h) (RepL.dp s r (by simpa [D.py, PyData.canLay0] using c))
  | _, .lst ds, .lst h r, c => by
    unfold D.py
    exact .lst (.inl (.inl (s _ _ h))) (RepL.dp s r (by simpa [D.py, PyData.canLay0] using c))
  | _, .frz ds, .frz h r, c => by
    unfold D.py
    exact .lst (s.sqL h) (RepL.dp s r (by simpa [D.py, PyData.canLay0] using c))
  | _, .ref _, .ref _, c => by simp [D.py, PyData.canLay0] at c
theorem RepL.dp (s : Sub G H) : ∀ {vs : List V} {ds : List D}, RepL K G μ vs ds → PyData.canLayAll0 (pyL ds) = true → DpAll K H vs (pyL ds)
  | _, [], .nil, _ => by unfold pyL; exact .nil
  | _, d :: ds, .cons h r, c => by
    have c' : d.py.canLay0 = true ∧ PyData.canLayAll0 (pyL ds) = true := by simpa [pyL, PyData.canLayAll0] using c
    unfold pyL
    exact .cons (Rep.dp s h c'.1) (RepL.dp s r c'.2)
end
theorem BRep.dp (s : Sub G H) {v : V} {d : D} (r : BRep K H G μ v d) (c : d.shp = true) : Dp K H v d.py := by
  have c := SeqAt.canLay_of_shaped c
  rcases r with r | ⟨a, vs, ds, rfl, rfl, h, r, _⟩
  · exact r.dp s c
  · have c' : PyData.canLayAll0 (pyL ds) = true := by simpa [D.py, PyData.canLay0] using c
    exact .lst (.inl (.inl h)) (r.dp s c')
end

def bl (b : Bool) : M D := M.pure (.bl b)
def guardM {α : Type} (c : Bool) (m : M α) : M α := if c = true then m else M.bad
theorem Post.guard {K : PySem.W.Frag} {mg : Str → Option Value} {E : XK} {α β : Type} {R : RR β α} {H G : Hp} {μ : Mu} {c : Bool} {m : M α} {st : Sto} {Q : β → Hp → Prop} (p : Post wW K mg E R H G μ (guardM c m st) Q) : c = true ∧ Post wW K mg E R H G μ (m st) Q := by
  unfold guardM at p
  by_cases h : c = true
  · rw [if_pos h] at p; exact ⟨h, p⟩
  · rw [if_neg h] at p; exact p.elim
theorem Post.bl {K : PySem.W.Frag} {mg : Str → Option Value} {E : XK} {H G : Hp} {μ : Mu} {b : Bool} {st : Sto} {Q : VK} (p : Post wW K mg E (rRep K) H G μ (PL.bl b st) Q) (w : Wd wW K H G μ st) : Q (.bl b) H := p _ _ _ _ w .refl (.bl b)
section
variable {X : Cx} {E : XK} {H0 : Hp} {e a b c : Expr} {f g h : En → M D} {pos p0 : Pos}

/-! ### == and != of data -/
def eqM (x y : D) : M D := guardM (x.shp && y.shp) (PL.bl (x.eqv y))
def neM (x y : D) : M D := guardM (x.shp && y.shp) (PL.bl (!x.eqv y))
theorem o_eq : OpJ X E (rEqD X.K) eqM := fun H G μ st x y dx dy Q w rx ry p => by
  obtain ⟨c, p⟩ := p.guard
  rw [Bool.and_eq_true] at c
  exact ⟨_, _, rx.dp w.imm c.1, ry.dp w.imm c.2, c.1, c.2, p.bl w⟩
theorem o_ne : OpJ X E (rNeD X.K) neM := fun H G μ st x y dx dy Q w rx ry p => by
  obtain ⟨c, p⟩ := p.guard
  rw [Bool.and_eq_true] at c
  exact ⟨_, _, rx.dp w.imm c.1, ry.dp w.imm c.2, c.1, c.2, p.bl w⟩
/-! ### in, not in: a list, a tuple -/
def rInA (K : PySem.W.Frag) (neg : Bool) : R2 := fun x y H Q => ∃ d ds, Dp K H x d ∧ (Dp K H y (.list ds) ∨ Dp K H y (.tuple ds)) ∧ SeqAt.shaped d = true ∧ PyData.canLayAll0 ds = true ∧ Q (.bl (if neg then !ds.any fun z => PyData.eqv z d else ds.any fun z => PyData.eqv z d)) H
theorem op_inA (hu : X.A.units + 65 < cLine) : OpR X (compareOp .In) (rInA X.K false) := by
  intro pins s σ H x y v u Q I rx ry ⟨d, ds, hd, he, sd, cs, q⟩
  obtain ⟨as, r1⟩ := Dp.reads I d x v hd rx
  have hr := PyProof.Rows.room_in_shaped (xs := ds) sd hu
  rcases he with he | he
  · obtain ⟨bs, r2⟩ := Dp.reads I (.list ds) y u he ry
    exact SeqAt.in_list_reads r2 r1 cs (SeqAt.canLay_of_shaped sd) hr ⟨.bl _, H, I, rfl, q⟩
  · obtain ⟨bs, r2⟩ := Dp.reads I (.tuple ds) y u he ry
    exact SeqAt.in_tuple_reads r2 r1 cs (SeqAt.canLay_of_shaped sd) hr ⟨.bl _, H, I, rfl, q⟩
theorem op_notInA (hu : X.A.units + 65 < cLine) : OpR X (compareOp .NotIn) (rInA X.K true) := by
  intro pins s σ H x y v u Q I rx ry ⟨d, ds, hd, he, sd, cs, q⟩
  obtain ⟨as, r1⟩ := Dp.reads I d x v hd rx
  have hr := PyProof.Rows.room_in_shaped (xs := ds) sd hu
  rcases he with he | he
  · obtain ⟨bs, r2⟩ := Dp.reads I (.list ds) y u he ry
    exact SeqAt.notIn_list_reads r2 r1 cs (SeqAt.canLay_of_shaped sd) hr ⟨.bl _, H, I, rfl, q⟩
  · obtain ⟨bs, r2⟩ := Dp.reads I (.tuple ds) y u he ry
    exact SeqAt.notIn_tuple_reads r2 r1 cs (SeqAt.canLay_of_shaped sd) hr ⟨.bl _, H, I, rfl, q⟩
def strIn (s z : Str) : Bool := match s.cps.toList with
  | [c] => decide (c ∈ z.cps.toList)
  | _ => !(Builtin.Str.occurrences z s 0 z.length 1).isEmpty
theorem strIn_eq (s z : Str) : strIn s z = !(Builtin.Str.occurrences z s 0 z.length 1).isEmpty := by
  unfold strIn
  split
  · rename_i c h
    have e : s = ⟨#[c]⟩ := by
      cases s with
      | mk cps =>
        have : cps = #[c] := by
          have h' : cps.toList = [c] := h
          exact Array.toList_inj.mp h'
        rw [this]
    rw [e]
    exact (PySem.StrLaws.found_one z c).symm
  · rfl
def inM (x y : D) : M D := match y with
  | .str z => (match x with
    | .str s => PL.bl (strIn s z)
    | _ => M.bad)
  | y => guardM (x.shp && y.shp) (match seqD y with
    | some ds => PL.bl (ds.any fun z => z.eqv x)
    | none => M.bad)
def notInM (x y : D) : M D := match y with
  | .str z => (match x with
    | .str s => PL.bl (!strIn s z)
    | _ => M.bad)
  | y => guardM (x.shp && y.shp) (match seqD y with
    | some ds => PL.bl (!ds.any fun z => z.eqv x)
    | none => M.bad)
def rInB (K : PySem.W.Frag) (neg : Bool) : R2 := fun x y H Q => rInA K neg x y H Q ∨ ∃ i j, x = .str i ∧ y = .str j ∧ Q (.bl (if neg then !(!(Builtin.Str.occurrences j i 0 j.length 1).isEmpty) else !(Builtin.Str.occurrences j i 0 j.length 1).isEmpty)) H
theorem op_inB (hu : X.A.units + 65 < cLine) : OpR X (compareOp .In) (rInB X.K false) := (op_inA hu).or op_in_str
theorem op_notInB (hu : X.A.units + 65 < cLine) : OpR X (compareOp .NotIn) (rInB X.K true) := (op_notInA hu).or op_notIn_str
theorem any_py (ds : List D) (x : D) : ((pyL ds).any fun z => PyData.eqv z x.py) = ds.any fun z => z.eqv x := by
  rw [pyL_map, List.any_map]; rfl
theorem BRep.str {K : PySem.W.Frag} {H G : Hp} {μ : Mu} {v : V} {x : Str} (r : BRep K H G μ v (.str x)) : v = .str x := by
  rcases r with r | ⟨_, _, _, _, e, _⟩
  · cases r; rfl
  · cases e
theorem BRep.int {K : PySem.W.Frag} {H G : Hp} {μ : Mu} {v : V} {x : Int} (r : BRep K H G μ v (.int x)) : v = .int x := by
  rcases r with r | ⟨_, _, _, _, e, _⟩
  · cases r; rfl
  · cases e
theorem shp_all {ds : List D} {y : D} (h : seqD y = some ds) (c : y.shp = true) : PyData.canLayAll0 (pyL ds) = true ∧ (y.py = .list (pyL ds) ∨ y.py = .tuple (pyL ds)) := by
  have c := SeqAt.canLay_of_shaped c
  cases y with
  | tup es => cases h; exact ⟨by simpa [D.py, PyData.canLay0] using c, .inr (by unfold D.py; rfl)⟩
  | lst es => cases h; exact ⟨by simpa [D.py, PyData.canLay0] using c, .inl (by unfold D.py; rfl)⟩
  | frz es => cases h; exact ⟨by simpa [D.py, PyData.canLay0] using c, .inl (by unfold D.py; rfl)⟩
  | _ => cases h
theorem o_in : OpJ X E (rInB X.K false) inM := fun H G μ st x y dx dy Q w rx ry p => by
  have gen : ∀ {dy : D}, BRep X.K H G μ y dy → Post X.w X.K X.mg E (rRep X.K) H G μ (guardM (dx.shp && dy.shp) (match seqD dy with
    | some ds => PL.bl (ds.any fun z => z.eqv dx)
    | none => M.bad) st) Q → rInB X.K false x y H Q := fun {dy} ry p => by
    obtain ⟨c, p⟩ := p.guard
    rw [Bool.and_eq_true] at c
    cases hs : seqD dy with
    | none => rw [hs] at p; exact p.elim
    | some ds =>
      rw [hs] at p
      obtain ⟨c1, c2⟩ := shp_all hs c.2
      have dp := ry.dp w.imm c.2
      refine .inl ⟨_, pyL ds, rx.dp w.imm c.1, ?_, c.1, c1, ?_⟩
      · rcases c2 with c2 | c2
        · rw [c2] at dp; exact .inl dp
        · rw [c2] at dp; exact .inr dp
      · rw [any_py]; exact p.bl w
  cases dy with
  | str z =>
    cases dx with
    | str s => exact .inr ⟨s, z, rx.str, ry.str, by rw [← strIn_eq]; exact p.bl w⟩
    | _ => exact p.elim
  | _ => exact gen ry p
theorem o_notIn : OpJ X E (rInB X.K true) notInM := fun H G μ st x y dx dy Q w rx ry p => by
  have gen : ∀ {dy : D}, BRep X.K H G μ y dy → Post X.w X.K X.mg E (rRep X.K) H G μ (guardM (dx.shp && dy.shp) (match seqD dy with
    | some ds => PL.bl (!ds.any fun z => z.eqv dx)
    | none => M.bad) st) Q → rInB X.K true x y H Q := fun {dy} ry p => by
    obtain ⟨c, p⟩ := p.guard
    rw [Bool.and_eq_true] at c
    cases hs : seqD dy with
    | none => rw [hs] at p; exact p.elim
    | some ds =>
      rw [hs] at p
      obtain ⟨c1, c2⟩ := shp_all hs c.2
      have dp := ry.dp w.imm c.2
      refine .inl ⟨_, pyL ds, rx.dp w.imm c.1, ?_, c.1, c1, ?_⟩
      · rcases c2 with c2 | c2
        · rw [c2] at dp; exact .inl dp
        · rw [c2] at dp; exact .inr dp
      · rw [any_py]; exact p.bl w
  cases dy with
  | str z =>
    cases dx with
    | str s => exact .inr ⟨s, z, rx.str, ry.str, by rw [← strIn_eq]; exact p.bl w⟩
    | _ => exact p.elim
  | _ => exact gen ry p
end
end PL

set_option linter.all false
set_option maxRecDepth 100000
set_option maxHeartbeats 4000000
/-! PL8: orders, arithmetic, +, subscripts, slices, len, isinstance, all, any. -/
namespace PL
open PySem PySem.Spec L2
variable {wW : World}
section
variable {X : Cx} {E : XK} {H0 : Hp} {e a b c : Expr} {f g h : En → M D} {pos p0 : Pos}
theorem BRep.bl {K : PySem.W.Frag} {H G : Hp} {μ : Mu} {v : V} {x : Bool} (r : BRep K H G μ v (.bl x)) : v = .bl x := by
  rcases r with r | ⟨_, _, _, _, e, _⟩
  · cases r; rfl
  · cases e
theorem BRep.non {K : PySem.W.Frag} {H G : Hp} {μ : Mu} {v : V} (r : BRep K H G μ v .non) : v = .non := by
  rcases r with r | ⟨_, _, _, _, e, _⟩
  · cases r; rfl
  · cases e
/-- a sequence, where it stands now -/
theorem BRep.seq {K : PySem.W.Frag} {H G : Hp} {μ : Mu} {v : V} {d : D} {ds : List D} (s : Sub G H) (r : BRep K H G μ v d) (h : seqD d = some ds) : ∃ a vs, v = .ref a ∧ (SqL K H a vs ∨ SqT K H a vs) ∧ RepL K G μ vs ds := by
  rcases r with r | ⟨a, vs, es, rfl, rfl, h1, r, _⟩
  · cases r with
    | tup h1 r => cases h; exact ⟨_, _, rfl, .inr (s.sqT h1), r⟩
    | lst h1 r => cases h; exact ⟨_, _, rfl, .inl (.inl (.inl (s _ _ h1))), r⟩
    | frz h1 r => cases h; exact ⟨_, _, rfl, .inl (s.sqL h1), r⟩
    | _ => cases h
  · cases h; exact ⟨a, vs, rfl, .inl (.inl (.inl h1)), r⟩
theorem BRep.tup {K : PySem.W.Frag} {H G : Hp} {μ : Mu} {v : V} {ds : List D} (s : Sub G H) (r : BRep K H G μ v (.tup ds)) : ∃ a vs, v = .ref a ∧ SqT K G a vs ∧ RepL K G μ vs ds := by
  rcases r with r | ⟨_, _, _, _, e, _⟩
  · cases r with
    | tup h1 r => exact ⟨_, _, rfl, h1, r⟩
  · cases e
theorem BRep.lst {K : PySem.W.Frag} {H G : Hp} {μ : Mu} {v : V} {ds : List D} (s : Sub G H) (r : BRep K H G μ v (.lst ds)) : ∃ a vs, v = .ref a ∧ H a = some (.lst vs) ∧ RepL K G μ vs ds := by
  rcases r with r | ⟨a, vs, es, rfl, e, h1, r, _⟩
  · cases r with
    | lst h1 r => exact ⟨_, _, rfl, s _ _ h1, r⟩
  · cases e; exact ⟨a, vs, rfl, h1, r⟩
/-! ### orders -/
def ltS (i j : Str) : Bool := decide (i.cps.toList < j.cps.toList)
def ltM (x y : D) : M D := match x, y with
  | .int i, .int j => PL.bl (decide (i < j))
  | .str i, .str j => PL.bl (ltS i j)
  | _, _ => M.bad
def leM (x y : D) : M D := match x, y with
  | .int i, .int j => PL.bl (decide (i ≤ j))
  | .str i, .str j => PL.bl (!ltS j i)
  | _, _ => M.bad
def gtM (x y : D) : M D := match x, y with
  | .int i, .int j => PL.bl (decide (j < i))
  | .str i, .str j => PL.bl (ltS j i)
  | _, _ => M.bad
def geM (x y : D) : M D := match x, y with
  | .int i, .int j => PL.bl (decide (j ≤ i))
  | .str i, .str j => PL.bl (!ltS i j)
  | _, _ => M.bad
/-- two ints, or two texts -/
def rOrd (p : Int → Int → Bool) (q : Str → Str → Bool) : R2 := fun x y H Q => rI0 (fun i j => .bl (p i j)) x y H Q ∨ ∃ i j, x = .str i ∧ y = .str j ∧ Q (.bl (q i j)) H
def ordM (p : Int → Int → Bool) (q : Str → Str → Bool) (x y : D) : M D := match x, y with
  | .int i, .int j => PL.bl (p i j)
  | .str i, .str j => PL.bl (q i j)
  | _, _ => M.bad
theorem o_ord {p : Int → Int → Bool} {q : Str → Str → Bool} : OpJ X E (rOrd p q) (ordM p q) := fun H G μ st x y dx dy Q w rx ry h => by
  cases dx with
  | int i =>
    cases dy with
    | int j => exact .inl ⟨i, j, rx.int, ry.int, h.bl w⟩
    | _ => exact h.elim
  | str i =>
    cases dy with
    | str j => exact .inr ⟨i, j, rx.str, ry.str, h.bl w⟩
    | _ => exact h.elim
  | _ => cases dy <;> exact h.elim
theorem op_ltO : OpR X (compareOp .Lt) (rOrd (fun i j => decide (i < j)) ltS) := op_lt.or op_lt_str
theorem op_leO : OpR X (compareOp .LtE) (rOrd (fun i j => decide (i ≤ j)) fun i j => !ltS j i) := op_le.or op_le_str
theorem op_gtO : OpR X (compareOp .Gt) (rOrd (fun i j => decide (j < i)) fun i j => ltS j i) := op_gt.or op_gt_str
theorem op_geO : OpR X (compareOp .GtE) (rOrd (fun i j => decide (j ≤ i)) fun i j => !ltS i j) := op_ge.or op_ge_str
theorem o_lt : OpJ X E (rOrd (fun i j => decide (i < j)) ltS) ltM := o_ord
theorem o_le : OpJ X E (rOrd (fun i j => decide (i ≤ j)) fun i j => !ltS j i) leM := o_ord
theorem o_gt : OpJ X E (rOrd (fun i j => decide (j < i)) fun i j => ltS j i) gtM := o_ord
theorem o_ge : OpJ X E (rOrd (fun i j => decide (j ≤ i)) fun i j => !ltS i j) geM := o_ord
/-- a op b op' c -/
def eCh (p q : D → D → M D) (f g h : En → M D) : En → M D := fun ρ => (f ρ).bind fun x => (g ρ).bind fun y => (p x y).bind fun z => match z with
  | .bl true => (h ρ).bind fun u => q y u
  | .bl false => M.pure (.bl false)
  | _ => M.bad
theorem se_ch {r r' : R2} {p q : D → D → M D} (hp : OpJ X E r p) (hq : OpJ X E r' q) : ∀ σ H Q, Se X E H0 (rRep X.K) (eCh p q f g h) σ H Q → tChain r r' (Se X E H0 (rBRep X.K) f) (Se X E H0 (rBRep X.K) g) (Se X E H0 (rBRep X.K) h) σ H Q := by
  intro σ H Q ⟨G, μ, st, ρ, w, er, k⟩
  refine ⟨G, μ, st, ρ, w, er, Post.bind k fun dx st1 x H1 G1 μ1 w1 s1 r1 k1 => ?_⟩
  refine ⟨G1, μ1, st1, ρ, w1, er.step s1, Post.bind k1 fun dy st2 y H2 G2 μ2 w2 s2 r2 k2 => ?_⟩
  refine hp H2 G2 μ2 st2 x y dx dy _ w2 (r1.step s2).weak r2.weak (Post.bind k2 fun dz st3 z H3 G3 μ3 w3 s3 r3 k3 => ?_)
  cases r3 with
  | bl b =>
    refine ⟨b, rfl, ?_⟩
    cases b with
    | false => exact k3 _ _ _ _ w3 .refl (.bl false)
    | true => exact ⟨G3, μ3, st3, ρ, w3, ((er.step s1).step s2).step s3, Post.bind k3 fun du st4 u H4 G4 μ4 w4 s4 r4 k4 => hq H4 G4 μ4 st4 y u dy du Q w4 ((r2.step s3).step s4).weak r4.weak k4⟩
  | _ => exact k3.elim
theorem je_chain {op op' : CmpOp} {r r' : R2} {p q : D → D → M D} (ho : OpR X (compareOp op) r) (hp : OpJ X E r p) (ho' : OpR X (compareOp op') r') (hq : OpJ X E r' q) (ha : JB X E H0 f a) (hb : JB X E H0 g b) (hc : JB X E H0 h c)
    (hm : lastMarks [op, op'] [b, c] = false := by with_unfolding_all rfl) : JE X E H0 (eCh p q f g h) (.Compare a [op, op'] [b, c] pos) := PE.imp (pe_chain ho ho' ha hb hc hm) (se_ch hp hq)
theorem jt_chain {op op' : CmpOp} {r r' : R2} {p q : D → D → M D} (ho : OpR X (compareOp op) r) (hp : OpJ X E r p) (ho' : OpR X (compareOp op') r') (hq : OpJ X E r' q) (ha : JB X E H0 f a) (hb : JB X E H0 g b) (hc : JB X E H0 h c)
    (hm : lastMarks [op, op'] [b, c] = false := by with_unfolding_all rfl) : JT X E H0 (tBl (eCh p q f g h)) (.Compare a [op, op'] [b, c] pos) := by
  refine PT.imp (pt_chain ho ho' ha hb hc hm) fun σ H Q ⟨G, μ, st, ρ, w, er, k⟩ => se_ch hp hq _ _ _ ⟨G, μ, st, ρ, w, er, Post.bind k fun d st1 x H1 G1 μ1 w1 s1 r1 q1 => ?_⟩
  cases r1 with
  | bl b => exact ⟨b, rfl, q1 _ _ _ _ w1 .refl rfl⟩
  | _ => exact q1.elim
/-! ### arithmetic -/
def int2 (C : Int → Int → Bool) (p : Int → Int → Int) (x y : D) : M D := match x, y with
  | .int i, .int j => guardM (C i j) (M.pure (.int (p i j)))
  | _, _ => M.bad
theorem o_int {C : Int → Int → Prop} {C' : Int → Int → Bool} {p : Int → Int → Int} (hC : ∀ i j, C' i j = true → C i j) : OpJ X E (rI C fun i j => .int (p i j)) (int2 C' p) := fun H G μ st x y dx dy Q w rx ry h => by
  cases dx with
  | int i =>
    cases dy with
    | int j =>
      obtain ⟨c, h⟩ := Post.guard h
      exact ⟨i, j, rx.int, ry.int, hC i j c, h _ _ _ _ w .refl (.int _)⟩
    | _ => exact h.elim
  | _ => cases dy <;> exact h.elim
theorem o_int0 {p : Int → Int → Int} : OpJ X E (rI0 fun i j => .int (p i j)) (int2 (fun _ _ => true) p) := fun H G μ st x y dx dy Q w rx ry h => by
  cases dx with
  | int i =>
    cases dy with
    | int j =>
      obtain ⟨c, h⟩ := Post.guard h
      exact ⟨i, j, rx.int, ry.int, h _ _ _ _ w .refl (.int _)⟩
    | _ => exact h.elim
  | _ => cases dy <;> exact h.elim
abbrev subM := int2 (fun _ _ => true) fun i j => i - j
abbrev mulM := int2 (fun i j => decide ((-(2 ^ 64) < i ∧ i < 2 ^ 64) ∨ (-(2 ^ 64) < j ∧ j < 2 ^ 64))) fun i j => i * j
abbrev fdivM := int2 (fun _ j => decide (0 < j ∧ j < 1073741824)) fun i j => i / j
abbrev modM := int2 (fun _ j => decide (0 < j)) fun i j => i % j
abbrev powM := int2 (fun i j => decide (0 ≤ j ∧ j ≤ 1000000 ∧ i.natAbs < 2 ^ 64)) fun i j => i ^ j.toNat
theorem o_sub : OpJ X E (rI0 fun i j => .int (i - j)) subM := o_int0
theorem o_mul : OpJ X E (rI CMul fun i j => .int (i * j)) mulM := o_int fun i j h => by have q := of_decide_eq_true h; exact q
theorem o_fdiv : OpJ X E (rI CDiv fun i j => .int (i / j)) fdivM := o_int fun i j h => by have q := of_decide_eq_true h; exact q
theorem o_mod : OpJ X E (rI (fun _ j => 0 < j) fun i j => .int (i % j)) modM := o_int fun _ _ h => of_decide_eq_true h
theorem o_pow : OpJ X E (rI CPow fun i j => .int (i ^ j.toNat)) powM := o_int fun i j h => by have q := of_decide_eq_true h; exact q
/-- a + b: ints, texts, tuples -/
def addM (x y : D) : M D := match x, y with
  | .int i, .int j => M.pure (.int (i + j))
  | .str i, .str j => (line (i.length + j.length)).bind fun _ => M.pure (.str (i ++ j))
  | .tup xs, .tup ys => (line (xs.length + ys.length)).bind fun _ => M.pure (.tup (xs ++ ys))
  | .lst xs, .lst ys => (line (xs.length + ys.length)).bind fun _ => M.pure (.lst (xs ++ ys))
  | _, _ => M.bad
def rAddA (K : PySem.W.Frag) : R2 := fun x y H Q => rI0 (fun i j => .int (i + j)) x y H Q ∨ (∃ i j, x = .str i ∧ y = .str j ∧ i.length + j.length ≤ sizeLine ∧ Q (.str (i ++ j)) H) ∨ rCatA K x y H Q ∨ rCat x y H Q
theorem op_addA : OpR X (binaryOp .Add) (rAddA X.K) := op_add.or (op_add_str.or (op_catA.or op_cat))
theorem o_add : OpJ X E (rAddA X.K) addM := fun H G μ st x y dx dy Q w rx ry h => by
  cases dx with
  | int i =>
    cases dy with
    | int j => exact .inl ⟨i, j, rx.int, ry.int, h _ _ _ _ w .refl (.int _)⟩
    | _ => exact h.elim
  | str i =>
    cases dy with
    | str j =>
      obtain ⟨c, h⟩ := Post.line (X := X) h
      exact .inr (.inl ⟨i, j, rx.str, ry.str, c, h _ _ _ _ w .refl (.str _)⟩)
    | _ => exact h.elim
  | tup xs =>
    cases dy with
    | tup ys =>
      obtain ⟨c, h⟩ := Post.line (X := X) h
      obtain ⟨p, vs, rfl, h1, r1⟩ := rx.tup w.imm
      obtain ⟨q, us, rfl, h2, r2⟩ := ry.tup w.imm
      refine .inr (.inr (.inl ⟨p, q, vs, us, rfl, rfl, w.imm.sqT h1, w.imm.sqT h2, by rw [RepL.length r1, RepL.length r2]; exact c, fun e => ?_, fun _ e => ?_, fun _ _ l hl => ?_⟩))
      · subst e; cases r1; exact h _ _ _ _ w .refl (.tup h2 r2)
      · subst e; cases r2; rw [List.append_nil] at h; exact h _ _ _ _ w .refl (.tup h1 r1)
      · obtain ⟨w2, s2⟩ := w.new (o := .tup (vs ++ us)) hl
        exact h _ _ _ _ w2 s2 (.tup (.inl (.inl upd_same)) ((r1.append r2).mono s2.g s2.m))
    | _ => exact h.elim
  | lst xs =>
    cases dy with
    | lst ys =>
      obtain ⟨c, h⟩ := Post.line (X := X) h
      obtain ⟨p, vs, rfl, h1, r1⟩ := rx.lst w.imm
      obtain ⟨q, us, rfl, h2, r2⟩ := ry.lst w.imm
      refine .inr (.inr (.inr ⟨p, q, vs, us, rfl, rfl, h1, h2, by rw [RepL.length r1, RepL.length r2]; exact c, fun l hl => ?_⟩))
      obtain ⟨w2, s2⟩ := w.new (o := .lst (vs ++ us)) hl
      exact h _ _ _ _ w2 s2 (.lst upd_same ((r1.append r2).mono s2.g s2.m))
    | _ => exact h.elim
  | _ => cases dy <;> exact h.elim
def eNeg (f : En → M D) : En → M D := fun ρ => (f ρ).bind fun d => match d with
  | .int i => M.pure (.int (-i))
  | _ => M.bad
theorem je_neg (ha : JE X E H0 f a) : JE X E H0 (eNeg f) (.UnaryOp .USub a pos) := PE.imp (pe_un un_neg ha) fun σ H Q ⟨G, μ, st, ρ, w, er, q⟩ =>
  ⟨G, μ, st, ρ, w, er, Post.bind q fun d st1 x H1 G1 μ1 w1 s1 r1 q1 => by
    cases r1 with
    | int i => exact ⟨i, rfl, q1 _ _ _ _ w1 .refl (.int _)⟩
    | _ => exact q1.elim⟩
/-! ### len -/
def lenM (x : D) : M D := match x with
  | .str s => (line s.length).bind fun _ => M.pure (.int s.length)
  | x => (opt (seqD x)).bind fun ds => M.pure (.int ds.length)
theorem c_len : C1J X E (fun xs H Q => ∃ x n, xs = [x] ∧ LenV X.K x H n ∧ Q (.int n) H) lenM := fun H G μ st x dx Q w rx h => by
  have gen : ∀ {dx : D}, BRep X.K H G μ x dx → Post X.w X.K X.mg E (rRep X.K) H G μ ((opt (seqD dx)).bind (fun ds => M.pure (.int ds.length)) st) Q → ∃ x' n, [x] = [x'] ∧ LenV X.K x' H n ∧ Q (.int n) H := fun rx h => by
    obtain ⟨ds, hs, h⟩ := Post.opt h
    obtain ⟨p, vs, rfl, hq, r⟩ := rx.seq w.imm hs
    refine ⟨_, vs.length, rfl, hq.imp (fun h => ⟨vs, h, rfl⟩) (fun h => ⟨vs, h, rfl⟩), ?_⟩
    rw [RepL.length r]
    exact h _ _ _ _ w .refl (.int _)
  cases dx with
  | str s =>
    obtain ⟨c, h⟩ := Post.line (X := X) h
    cases rx.str
    exact ⟨_, s.length, rfl, ⟨c, rfl⟩, h _ _ _ _ w .refl (.int _)⟩
  | _ => exact gen rx h
/-! ### subscripts -/
def ixM (x y : D) : M D := match y with
  | .int i => (match x with
    | .str s => (line s.length).bind fun _ => (opt (atI s.cps.toList i)).bind fun c => M.pure (.str ⟨#[c]⟩)
    | x => (opt (seqD x)).bind fun ds => opt (atI ds i))
  | _ => M.bad
theorem RepL.atI {K : PySem.W.Frag} {G : Hp} {μ : Mu} {vs : List V} {ds : List D} {i : Int} {d : D} (r : RepL K G μ vs ds) (h : L2.atI ds i = some d) : ∃ v, L2.atI vs i = some v ∧ Rep K G μ v d := by
  unfold L2.atI at h ⊢
  rw [RepL.length r]
  cases e : ixN ds.length i with
  | none => rw [e] at h; cases h
  | some j =>
    rw [e] at h
    obtain ⟨v, h1, h2⟩ := r.get (i := j) h
    exact ⟨v, h1, h2⟩
theorem o_ix : OpJ X E (rIx X.K) ixM := fun H G μ st x y dx dy Q w rx ry h => by
  cases dy with
  | int i =>
    cases ry.int
    have gen : ∀ {dx : D}, BRep X.K H G μ x dx → Post X.w X.K X.mg E (rRep X.K) H G μ ((opt (seqD dx)).bind (fun ds => opt (atI ds i)) st) Q → rIx X.K x (.int i) H Q := fun rx h => by
      obtain ⟨ds, hs, h⟩ := Post.opt h
      obtain ⟨p, vs, rfl, hq, r⟩ := rx.seq w.imm hs
      cases e : L2.atI ds i with
      | none => rw [e] at h; exact h.elim
      | some d =>
        rw [e] at h
        obtain ⟨v, h1, h2⟩ := r.atI e
        rcases hq with hq | hq
        · exact .inl ⟨p, vs, i, v, rfl, rfl, hq, h1, h _ _ _ _ w .refl h2⟩
        · exact .inr (.inl ⟨p, vs, i, v, rfl, rfl, hq, h1, h _ _ _ _ w .refl h2⟩)
    cases dx with
    | str s =>
      obtain ⟨c, h⟩ := Post.line (X := X) h
      obtain ⟨k, hk, h⟩ := Post.opt h
      cases rx.str
      exact .inr (.inr ⟨s, i, k, rfl, rfl, c, hk, h _ _ _ _ w .refl (.str _)⟩)
    | _ => exact gen rx h
  | _ => exact h.elim
/-! ### slices -/
def cutD (ds : List D) (lo hi : Option Int) : List D := (ds.drop (HT.sIx ds.length 0 lo)).take (HT.sIx ds.length ds.length hi - HT.sIx ds.length 0 lo)
theorem RepL.cut {K : PySem.W.Frag} {G : Hp} {μ : Mu} {vs : List V} {ds : List D} (r : RepL K G μ vs ds) (lo hi : Option Int) : RepL K G μ (cutV vs lo hi) (cutD ds lo hi) := by
  unfold cutV cutD
  rw [RepL.length r]
  exact (r.drop _).take _
/-- a part of a slice -/
def oNo : En → M (Option Int) := fun _ => M.pure none
def oSo (f : En → M D) : En → M (Option Int) := fun ρ => (f ρ).bind fun d => match d with
  | .int i => M.pure (some i)
  | _ => M.bad
def rEq {α : Type} : RR α α := ⟨fun _ _ _ _ v d => v = d, fun _ h => h⟩
def JO (X : Cx) (E : XK) (H0 : Hp) (f : En → M (Option Int)) (e : Option Expr) : Prop := PO X e (Se X E H0 rEq f)
theorem PO.imp {o : Option Expr} {t t' : TO} (h : PO X o t) (q : ∀ σ H Q, t' σ H Q → t σ H Q) : PO X o t' := ⟨fun pins s σ H Q I x => h.run pins s σ H Q I (q _ _ _ x)⟩
theorem jo_no : JO X E H0 oNo none := PO.imp po_none fun σ H Q ⟨G, μ, st, ρ, w, er, q⟩ => q none H G μ w .refl rfl
theorem jo_so (ha : JE X E H0 f e) : JO X E H0 (oSo f) (some e) := PO.imp (po_some ha) fun σ H Q ⟨G, μ, st, ρ, w, er, q⟩ =>
  ⟨G, μ, st, ρ, w, er, Post.bind q fun d st1 x H1 G1 μ1 w1 s1 r1 q1 => by
    cases r1 with
    | int i => exact ⟨i, rfl, q1 _ _ _ _ w1 .refl rfl⟩
    | _ => exact q1.elim⟩
/-- x[lo:hi] of a tuple, a text, a list -/
def slM (x : D) (lo hi : Option Int) : M D := match x with
  | .str s => (line s.length).bind fun _ => M.pure (.str (cutS s lo hi))
  | .tup ds => M.pure (.tup (cutD ds lo hi))
  | .lst ds => M.pure (.lst (cutD ds lo hi))
  | .frz ds => M.pure (.lst (cutD ds lo hi))
  | _ => M.bad
def eSl (f : En → M D) (lo hi : En → M (Option Int)) : En → M D := fun ρ => (f ρ).bind fun x => (lo ρ).bind fun l => (hi ρ).bind fun h => slM x l h
def rSlB (K : PySem.W.Frag) : V → Option Int → Option Int → Hp → VK → Prop := fun x lo hi H Q => rSlS x lo hi H Q ∨ rSlA K x lo hi H Q ∨ rSlL K x lo hi H Q
theorem sl_any : SlR X (rSlB X.K) := sl_str.or (sl_tupA.or sl_list)
theorem je_slice {lo hi : Option Expr} {fl fh : En → M (Option Int)} {p2 : Pos} (ha : JB X E H0 f e) (hl : JO X E H0 fl lo) (hh : JO X E H0 fh hi) : JE X E H0 (eSl f fl fh) (.Subscript e (.Slice lo hi none p2) pos) := by
  refine PE.imp (pe_slice sl_any ha hl hh) fun σ H Q ⟨G, μ, st, ρ, w, er, q⟩ => ?_
  refine ⟨G, μ, st, ρ, w, er, Post.bind q fun dx st1 x H1 G1 μ1 w1 s1 r1 q1 => ?_⟩
  refine ⟨G1, μ1, st1, ρ, w1, er.step s1, Post.bind q1 fun l st2 l' H2 G2 μ2 w2 s2 r2 q2 => ?_⟩
  refine ⟨G2, μ2, st2, ρ, w2, (er.step s1).step s2, Post.bind q2 fun u st3 u' H3 G3 μ3 w3 s3 r3 q3 => ?_⟩
  cases r2
  cases r3
  have rx := ((r1.step s2).step s3).weak
  have mkL : ∀ {a : Addr} {vs : List V} {ds : List D}, x = .ref a → SqL X.K H3 a vs → RepL X.K G3 μ3 vs ds → Post X.w X.K X.mg E (rRep X.K) H3 G3 μ3 (M.pure (.lst (cutD ds l u)) st3) Q → rSlB X.K x l u H3 Q := fun {a vs ds} e h r q => by
    subst e
    refine .inr (.inr ⟨a, vs, rfl, h, fun p hp => ?_⟩)
    obtain ⟨w4, s4⟩ := w3.new (o := .lst (cutV vs l u)) hp
    exact q _ _ _ _ w4 s4 (.lst upd_same ((r.cut l u).mono s4.g s4.m))
  cases dx with
  | str s =>
    obtain ⟨c, q3⟩ := Post.line (X := X) q3
    cases rx.str
    exact .inl ⟨s, rfl, c, q3 _ _ _ _ w3 .refl (.str _)⟩
  | tup ds =>
    obtain ⟨a, vs, rfl, h1, r⟩ := rx.tup w3.imm
    refine .inr (.inl ⟨a, vs, rfl, w3.imm.sqT h1, fun hw => ?_, fun _ p hp => ?_⟩)
    · have e : cutD ds l u = ds := by
        unfold cutD
        rw [← RepL.length r, hw.1, hw.2, List.drop_zero, Nat.sub_zero, RepL.length r, List.take_length]
      have q4 : Post X.w X.K X.mg E (rRep X.K) H3 G3 μ3 (M.pure (.tup (cutD ds l u)) st3) Q := q3
      rw [e] at q4
      exact q4 _ _ _ _ w3 .refl (.tup h1 r)
    · obtain ⟨w4, s4⟩ := w3.new (o := .tup (cutV vs l u)) hp
      exact q3 _ _ _ _ w4 s4 (.tup (.inl (.inl upd_same)) ((r.cut l u).mono s4.g s4.m))
  | lst ds =>
    obtain ⟨a, vs, rfl, h1, r⟩ := rx.lst w3.imm
    exact mkL rfl (.inl (.inl h1)) r q3
  | frz ds =>
    rcases rx with rx | ⟨_, _, _, _, e, _⟩
    · cases rx with
      | frz h1 r => exact mkL rfl (w3.imm.sqL h1) r q3
    · cases e
  | _ => exact q3.elim
/-! ### isinstance -/
def tyN : D → Option String
  | .non => some "NoneType"
  | .bl _ => some "bool"
  | .int _ => some "int"
  | .str _ => some "str"
  | .tup _ => some "tuple"
  | .lst _ => some "list"
  | .frz _ => some "list"
  | .ref _ => none
def isiM (T : String) (d : D) : M D := match tyN d with
  | some t => (match kitB t T with
    | some b => PL.bl b
    | none => M.bad)
  | none => M.bad
theorem Rep.ty {K : PySem.W.Frag} {H G : Hp} {μ : Mu} {v : V} {d : D} {t : String} (s : Sub G H) (r : Rep K G μ v d) (h : tyN d = some t) : TyX K H v (.type t) := by
  cases r with
  | non => cases h; exact .base .non
  | bl b => cases h; exact .base (.bl b)
  | int b => cases h; exact .base (.int b)
  | str b => cases h; exact .base (.str b)
  | tup h1 _ =>
    cases h
    rcases s.sqT h1 with (q | ⟨o, q⟩) | ⟨o, its, n, q, c, _⟩
    · exact .base (.tup q)
    · exact .fTuple q
    · exact .kTuple q c
  | lst h1 _ => cases h; exact .base (.lst (s _ _ h1))
  | frz h1 _ =>
    cases h
    rcases s.sqL h1 with (q | ⟨o, q⟩) | ⟨o, its, n, q, c, _⟩
    · exact .base (.lst q)
    · exact .base (.frz q)
    · exact .kList q c
  | ref _ => cases h
theorem je_isi {T : String} {x : Str} {pI pT : Pos} (hg : Gl X "isinstance") (hm : X.mg "isinstance" = none) (hgT : Gl X x) (hmT : X.mg x = none) (hvT : bootBuiltins x = some (.type T)) (ha : JE X E H0 f e) (hn : x ≠ "__name__" := by decide) (hdb : (x == ("__debug__" : Str)) = false := by decide)
    (hs : starEach [e, .Name x pT] X.env = (false, eval e X.env) :: starEach [.Name x pT] X.env := by rfl) (hs2 : starEach [.Name x pT] X.env = (false, eval (.Name x pT) X.env) :: starEach [] X.env := by rfl) (hpl : (backTo pos (starEach [.Name x pT] X.env)).any (·.1) = false := by rfl) :
    JE X E H0 (e1 (isiM T) f) (.Call (.Name "isinstance" pI) [e, .Name x pT] [] pos) := by
  refine PE.imp (pe_callB call_isi hg hm (by decide +kernel) (pa_cons ha (pa_cons (pe_bltn (v := .ty T) hgT hmT hvT rfl hn hdb) pa_nil hs2) hs) (by decide) (by decide) hs hpl) fun σ H Q ⟨G, μ, st, ρ, w, er, q⟩ => ?_
  refine ⟨G, μ, st, ρ, w, er, Post.bind q fun d st1 x H1 G1 μ1 w1 s1 r1 q1 => ?_⟩
  unfold isiM at q1
  cases ht : tyN d with
  | none => rw [ht] at q1; exact q1.elim
  | some t =>
    rw [ht] at q1
    cases hb : kitB t T with
    | none => simp only [hb] at q1; exact q1.elim
    | some b =>
      simp only [hb] at q1
      exact ⟨x, .ty T, .type t, .type T, b, rfl, .ty T, r1.ty w1.imm ht, kit_ty hb, q1.bl w1⟩
/-! ### all, any -/
def bools : List D → Option (List Bool)
  | [] => some []
  | .bl b :: ds => (bools ds).map (b :: ·)
  | _ => none
theorem bools_rep {K : PySem.W.Frag} {G : Hp} {μ : Mu} : ∀ {vs : List V} {ds : List D} {bs : List Bool}, RepL K G μ vs ds → bools ds = some bs → vs = bs.map V.bl
  | _, [], _, .nil, h => by unfold bools at h; cases h; rfl
  | _, _ :: ds, _, .cons (.bl b) r, h => by
    unfold bools at h
    cases e : bools ds with
    | none => rw [e] at h; cases h
    | some bs => rw [e] at h; cases h; rw [bools_rep r e]; rfl
  | _, _ :: _, _, .cons .non _, h => by unfold bools at h; cases h
  | _, _ :: _, _, .cons (.int _) _, h => by unfold bools at h; cases h
  | _, _ :: _, _, .cons (.str _) _, h => by unfold bools at h; cases h
  | _, _ :: _, _, .cons (.tup _ _) _, h => by unfold bools at h; cases h
  | _, _ :: _, _, .cons (.lst _ _) _, h => by unfold bools at h; cases h
  | _, _ :: _, _, .cons (.frz _ _) _, h => by unfold bools at h; cases h
  | _, _ :: _, _, .cons (.ref _) _, h => by unfold bools at h; cases h
def allM (d : D) : M D := match d with
  | .lst ds => (opt (bools ds)).bind fun bs => PL.bl (bs.all id)
  | _ => M.bad
def anyM (d : D) : M D := match d with
  | .lst ds => (opt (bools ds)).bind fun bs => PL.bl (bs.any id)
  | _ => M.bad
theorem c_all : C1J X E (rAll X.K) allM := fun H G μ st x dx Q w rx h => by
  cases dx with
  | lst ds =>
    obtain ⟨bs, hb, h⟩ := Post.opt h
    obtain ⟨p, vs, rfl, hq, r⟩ := rx.lst w.imm
    have e := bools_rep r hb
    subst e
    exact ⟨p, bs, rfl, .inl (.inl hq), h.bl w⟩
  | _ => exact h.elim
theorem c_any : C1J X E (rAny X.K) anyM := fun H G μ st x dx Q w rx h => by
  cases dx with
  | lst ds =>
    obtain ⟨bs, hb, h⟩ := Post.opt h
    obtain ⟨p, vs, rfl, hq, r⟩ := rx.lst w.imm
    have e := bools_rep r hb
    subst e
    exact ⟨p, bs, rfl, .inl (.inl hq), h.bl w⟩
  | _ => exact h.elim
end
end PL

set_option linter.all false
set_option maxRecDepth 100000
set_option maxHeartbeats 4000000
/-! PL9: short words for a printed text: own defs by name, slots, tests; append and extend of a slot's list. -/
namespace PL
open PySem PySem.Spec L2
variable {wW : World}

/-- a def of the text that may be called by its name -/
structure Own (P : Program) (w : World) (K : PySem.W.Frag) (mg : Str → Option Value) (base : Heap) (k : Nat) (x : Str) (ps : List Str) (sem : List D → M D) : Prop where
  ex : ∃ fa fd, FnOk P w K mg base (L2.CX P w) k fa fd ps (SpOf w K mg ps.length sem) ∧ mg x = some (.ref fa) ∧ PySem.W.keepIn K (.ref fa) = true ∧ (∀ us : List Value, us.length = ps.length → bindArgs fd ⟨us, []⟩ = pure (ps.zip us)) ∧ ∃ oc od sl, K.lookup fa = some ⟨oc, od, .func fd, sl⟩
/-- .. as it stands behind the top -/
structure Fn0 (K : PySem.W.Frag) (mg : Str → Option Value) (x : Str) (st : Stmt) (ps : List Str) : Prop where
  ex : ∃ fa fd, Fun K x x st fa fd ∧ mg x = some (.ref fa) ∧ ∀ us : List Value, us.length = ps.length → bindArgs fd ⟨us, []⟩ = pure (ps.zip us)
theorem Own.mono {P : Program} {w : World} {K : PySem.W.Frag} {mg : Str → Option Value} {base : Heap} {j k : Nat} {x : Str} {ps : List Str} {sem : List D → M D} (o : Own P w K mg base j x ps sem) (h : j ≤ k) : Own P w K mg base k x ps sem :=
  let ⟨fa, fd, F, m, kp, b⟩ := o.ex; ⟨fa, fd, F.mono h, m, kp, b⟩
theorem Own.sem {P : Program} {w : World} {K : PySem.W.Frag} {mg : Str → Option Value} {base : Heap} {k : Nat} {x : Str} {ps : List Str} {s1 s2 : List D → M D} (o : Own P w K mg base k x ps s1) (h : ∀ ds, ds.length = ps.length → s1 ds = s2 ds) : Own P w K mg base k x ps s2 :=
  let ⟨fa, fd, F, m, kp, b⟩ := o.ex; ⟨fa, fd, FnOk.sem F h, m, kp, b⟩
theorem Fun.lk {K : PySem.W.Frag} {x y : Str} {st : Stmt} {fa : Addr} {fd : FuncData} (F : L2.Fun K x y st fa fd) : ∃ oc od sl, K.lookup fa = some ⟨oc, od, .func fd, sl⟩ := let ⟨oc, od, _, _, _, _, _, _, sl, _, l, _⟩ := F.ex; ⟨oc, od, sl, l⟩
theorem own_def {P : Program} {w : World} {K : PySem.W.Frag} {mg : Str → Option Value} {base : Heap} {k : Nat} {x : Str} {st : Stmt} {N ps : List Str} {f : En → M (Fl × En)} (F : Fn0 K mg x st ps) (S : FnScope N ps (defScope st))
    (body : ∀ (fa : Addr) (cdv : Value) (A : Around) (outer : List Env) (s : Shared) (H G : Hp) (μ : Mu) (E : XK), Room k (A.deeper (PyProof.Rows.envOfC x (defScope st) s.heap.objs.size fa cdv)) →
      JSs (cxOf (L2.CX P w) P w K mg base N x (defScope st) fa cdv A outer s H E) E ⟨H, G, μ⟩ f (defBody st)) :
    Own P w K mg base (k + 1) x ps (runB N.length f) := by
  obtain ⟨fa, fd, F, m, b⟩ := F.ex
  exact ⟨fa, fd, def_ok F S (body fa), m, F.kp, b, Fun.lk F⟩

/-- a constant of the module -/
structure Cn (mg : Str → Option Value) (K : PySem.W.Frag) (x : Str) (d : D) : Prop where
  ex : ∃ v u, mg x = some u ∧ RelV v u ∧ ∀ G μ, Rep K G μ v d
theorem Cn.je {X : Cx} {E : XK} {H0 : Hp} {x : Str} {d : D} {pos : Pos} (C : Cn X.mg X.K x d) (hg : Gl X x) (hd : (x == ("__debug__" : Str)) = false := by decide) : JE X E H0 (eC d) (.Name x pos) := by
  obtain ⟨v, u, m, r, q⟩ := C.ex
  exact je_glob hg m r q hd
theorem hv_of {A : Around} {k : Nat} (hr : Room k A) : A.units + 65 < cLine := by have := hr.un; omega
section
variable {X : Cx} {E : XK} {H0 : Hp} {e a b c : Expr} {f g h : En → M D} {es : List Expr} {pos p p0 : Pos} {x : Str} {ga : En → M (List D)}
theorem jv (i : Nat) {x : Str} {pos : Pos} (hN : X.N[i]? = some x := by rfl) (hv : Vis X.env.scope x := by first | exact Or.inl rfl | exact Or.inr (Or.inl rfl) | exact Or.inr (Or.inr rfl)) (hd : (x == ("__debug__" : Str)) = false := by decide)
    (hcd : (x == ("__classdict__" : Str)) = false := by decide) : JE X E H0 (eVar i) (.Name x pos) := je_var hN hv hd hcd
theorem jw (i : Nat) {x : Str} {pos : Pos} (hN : X.N[i]? = some x := by rfl) (hv : Vis X.env.scope x := by first | exact Or.inl rfl | exact Or.inr (Or.inl rfl) | exact Or.inr (Or.inr rfl)) (hd : (x == ("__debug__" : Str)) = false := by decide)
    (hcd : (x == ("__classdict__" : Str)) = false := by decide) : JB X E H0 (eLook i) (.Name x pos) := jb_look hN hv hd hcd
theorem jcall {k n : Nat} {ps : List Str} {sem : List D → M D} (C : Own X.prog X.w X.K X.mg X.base k x ps sem) (hr : Room k X.A) (hx : Passes (L2.CX X.prog X.w) X E) (ha : JA X E H0 ga (e :: es)) (hg : Gl X x := by rfl) (hdb : (x == ("__debug__" : Str)) = false := by decide)
    (he : starEach (e :: es) X.env = (false, eval e X.env) :: starEach es X.env := by rfl) (hpl : (backTo pos (starEach es X.env)).any (·.1) = false := by rfl) (hn : ps.length = n := by rfl) : JE X E H0 (eCall n sem ga) (.Call (.Name x p) (e :: es) [] pos) := by
  subst hn
  obtain ⟨fa, fd, F, m, kp, b, _⟩ := C.ex
  exact je_call F hr hg m kp (.all b) hx ha hdb he hpl
theorem jcall0 {k n : Nat} {ps : List Str} {sem : List D → M D} (C : Own X.prog X.w X.K X.mg X.base k x ps sem) (hr : Room k X.A) (hx : Passes (L2.CX X.prog X.w) X E) (hg : Gl X x := by rfl) (hdb : (x == ("__debug__" : Str)) = false := by decide) (hn : ps.length = n := by rfl) : JE X E H0 (eCall n sem aNil) (.Call (.Name x p) [] [] pos) := by
  subst hn
  obtain ⟨fa, fd, F, m, kp, b, _⟩ := C.ex
  exact je_call0 F hr hg m kp (.all b) hx hdb
/-- in a block nothing leaves -/
theorem px : Passes (L2.CX X.prog X.w) X xNo := passL
/-- a def's body lets out what its caller takes -/
theorem pd (hs : X.stack = X.env :: X.outer) (hf : X.env.frame = some X.env.locals) (hex : X.ex = []) {E₁ : Value → Shared → Prop}
    (hx : X.xe = fun e s' => wpAny (model X.prog X.w) X.A (leaving X.env e) (fun _ s'' => L2.CX X.prog X.w X.outer X.H_0 X.s_0 E e s'') E₁ s') : Passes (L2.CX X.prog X.w) X E := passes_call (takes_of hs hf hex hx) fun _ _ _ _ h => h

/-! ### append, extend -/
variable {Φ : Ent} {i : Nat}
def sApp (i : Nat) (f : En → M D) : En → M (Fl × En) := fun ρ => match ρ[i]? with
  | some (.own ds) => (f ρ).bind fun d => (line (ds.length + 1)).bind fun _ => put i (.own (ds ++ [d])) ρ
  | _ => M.bad
def sExt (i : Nat) (f : En → M D) : En → M (Fl × En) := fun ρ => match ρ[i]? with
  | some (.own ds) => (f ρ).bind fun d => match d with
    | .lst es => (line (ds.length + es.length)).bind fun _ => put i (.own (ds ++ es)) ρ
    | _ => M.bad
  | _ => M.bad
theorem ER.upd {K : PySem.W.Frag} {H G H0 : Hp} {μ : Mu} {ρ : En} {σ : L2.St} (er : ER K H G μ H0 ρ σ) {ds : List D} (hi : ρ[i]? = some (.own ds)) {a : Addr} (ha : σ[i]? = some (some (.ref a))) {ws : List V} {es : List D} (r : RepL K G μ ws es)
    (g : G a = none) (n : ∀ k, μ k ≠ some a) (h0 : H0 a = none) : ER K (upd H a (.lst ws)) G μ H0 (ρ.set i (.own es)) σ where
  val := fun j d q => by
    have hl := (List.getElem?_eq_some_iff.mp hi).1
    by_cases hj : i = j
    · subst hj; rw [List.getElem?_set_self hl] at q; cases q
    · rw [List.getElem?_set_ne hj] at q; exact er.val j d q
  own := fun j ds' q => by
    have hl := (List.getElem?_eq_some_iff.mp hi).1
    by_cases hj : i = j
    · subst hj
      rw [List.getElem?_set_self hl] at q
      cases q
      exact ⟨a, ws, ha, upd_same, r, g, n, h0⟩
    · rw [List.getElem?_set_ne hj] at q
      obtain ⟨b, us, h1, h2, h3⟩ := er.own j ds' q
      have ne : b ≠ a := fun z => hj (er.inj i j ds ds' a hi q ha (by rw [h1, z]))
      exact ⟨b, us, h1, by rw [upd_ne ne]; exact h2, h3⟩
  inj := fun j k ds' es' b q1 q2 z1 z2 => by
    have hl := (List.getElem?_eq_some_iff.mp hi).1
    have back : ∀ {j : Nat} {es' : List D}, (ρ.set i (Slot.own es))[j]? = some (.own es') → ∃ fs, ρ[j]? = some (.own fs) := fun {j es'} q => by
      by_cases hj : i = j
      · subst hj; exact ⟨_, hi⟩
      · rw [List.getElem?_set_ne hj] at q; exact ⟨_, q⟩
    obtain ⟨_, b1⟩ := back q1
    obtain ⟨_, b2⟩ := back q2
    exact er.inj j k _ _ b b1 b2 z1 z2
  len := by rw [List.length_set]; exact er.len
  old := fun b o h => by
    by_cases hb : b = a
    · subst hb; exact ⟨_, upd_same⟩
    · obtain ⟨o', h'⟩ := er.old b o h; exact ⟨o', by rw [upd_ne hb]; exact h'⟩
theorem upd_end {Dn : Ends} {ρ : En} {σ : L2.St} {H G : Hp} {μ : Mu} {st : Sto} {ds es : List D} (w : Wd X.w X.K H G μ st) (er : ER X.K H G μ Φ.H ρ σ) (s : Stp Φ.H Φ.G Φ.μ H G μ) (hi : ρ[i]? = some (.own ds)) (q : PostS X E Φ Dn (put i (.own es) ρ st)) :
    ∃ a vs, σ[i]? = some (some (.ref a)) ∧ H a = some (.lst vs) ∧ RepL X.K G μ vs ds ∧ ∀ ws, RepL X.K G μ ws es → Dn.nx σ (upd H a (.lst ws)) := by
  obtain ⟨a, vs, h1, h2, h3, h4, h5, h6⟩ := er.own i ds hi
  refine ⟨a, vs, h1, h2, h3, fun ws r => ?_⟩
  unfold put at q
  have hl := (List.getElem?_eq_some_iff.mp hi).1
  rw [if_pos hl] at q
  exact q.nx (w.over h4 h5) (er.upd hi h1 r h4 h5 h6) (s.over h6)
theorem PostS.line {n : Nat} {m : M (Fl × En)} {st : Sto} {Dn : Ends} (p : PostS X E Φ Dn ((line n).bind (fun _ => m) st)) : n ≤ sizeLine ∧ PostS X E Φ Dn (m st) := by
  unfold M.bind PL.line at p
  by_cases h : n ≤ sizeLine
  · simp only [if_pos h] at p; exact ⟨h, p⟩
  · simp only [if_neg h] at p; exact p.elim
theorem js_app {x : Str} {p1 p2 pc ps : Pos} (hN : X.N[i]? = some x) (hv : Vis X.env.scope x) (he : JE X E Φ.H f e) (hd : (x == ("__debug__" : Str)) = false := by decide) (hcd : (x == ("__classdict__" : Str)) = false := by decide)
    (hb : ∀ {to : TE} {t : TA}, PE X (.Name x p1) to → PA X [e] t → PE X (.Call (.Attribute (.Name x p1) "append" p2) [e] [] pc) (tBM X.K "list" rAppend to t)) (ha : starEach [e] X.env = (false, eval e X.env) :: starEach [] X.env := by rfl)
    (hs : swapsWith (.Call (.Attribute (.Name x p1) "append" p2) [e] [] pc) none ps.line X.env = pure false := by rfl) : JS X E Φ (sApp i f) (.Expr (.Call (.Attribute (.Name x p1) "append" p2) [e] [] pc) ps) := by
  refine PS.imp (ps_expr (hb (pe_var hN hv hd hcd) (pa_one he ha)) hs) fun Dn σ H ⟨G, μ, st, ρ, w, er, s, q⟩ => ?_
  unfold sApp at q
  cases hi : ρ[i]? with
  | none => rw [hi] at q; exact q.elim
  | some x0 =>
   rw [hi] at q
   cases x0 with
   | no => exact q.elim
   | val d => exact q.elim
   | own ds =>
    obtain ⟨a0, vs0, h1, h2, h3, h4, h5, h6⟩ := er.own i ds hi
    refine ⟨_, h1, .inl ⟨rfl, _, .inl (.inl h2)⟩, G, μ, st, ρ, w, er, q.bind s fun d st1 v H1 G1 μ1 w1 s1 t1 r1 q1 => ?_⟩
    obtain ⟨hz, q2⟩ := q1.line
    obtain ⟨a, vs, k1, k2, k3, fin⟩ := upd_end w1 (er.step s1) t1 hi q2
    rw [h1] at k1; cases k1
    refine ⟨_, vs, v, rfl, rfl, k2, by rw [RepL.length k3]; omega, fin _ (k3.append (.cons r1 .nil))⟩
theorem js_ext {x : Str} {p1 p2 pc ps : Pos} (hN : X.N[i]? = some x) (hv : Vis X.env.scope x) (he : JE X E Φ.H f e) (hd : (x == ("__debug__" : Str)) = false := by decide) (hcd : (x == ("__classdict__" : Str)) = false := by decide)
    (hb : ∀ {to : TE} {t : TA}, PE X (.Name x p1) to → PA X [e] t → PE X (.Call (.Attribute (.Name x p1) "extend" p2) [e] [] pc) (tBM X.K "list" rExtend to t)) (ha : starEach [e] X.env = (false, eval e X.env) :: starEach [] X.env := by rfl)
    (hs : swapsWith (.Call (.Attribute (.Name x p1) "extend" p2) [e] [] pc) none ps.line X.env = pure false := by rfl) : JS X E Φ (sExt i f) (.Expr (.Call (.Attribute (.Name x p1) "extend" p2) [e] [] pc) ps) := by
  refine PS.imp (ps_expr (hb (pe_var hN hv hd hcd) (pa_one he ha)) hs) fun Dn σ H ⟨G, μ, st, ρ, w, er, s, q⟩ => ?_
  unfold sExt at q
  cases hi : ρ[i]? with
  | none => rw [hi] at q; exact q.elim
  | some x0 =>
   rw [hi] at q
   cases x0 with
   | no => exact q.elim
   | val d => exact q.elim
   | own ds =>
    obtain ⟨a0, vs0, h1, h2, h3, h4, h5, h6⟩ := er.own i ds hi
    refine ⟨_, h1, .inl ⟨rfl, _, .inl (.inl h2)⟩, G, μ, st, ρ, w, er, q.bind s fun d st1 v H1 G1 μ1 w1 s1 t1 r1 q1 => ?_⟩
    cases r1 with
    | lst e1 e2 =>
      obtain ⟨hz, q2⟩ := q1.line
      obtain ⟨a, vs, k1, k2, k3, fin⟩ := upd_end w1 (er.step s1) t1 hi q2
      rw [h1] at k1; cases k1
      exact ⟨_, _, vs, _, rfl, rfl, k2, w1.imm _ _ e1, by rw [RepL.length k3, RepL.length e2]; exact hz, fin _ (k3.append e2)⟩
    | _ => exact q1.elim
end
end PL

set_option linter.all false
set_option maxRecDepth 100000
set_option maxHeartbeats 4000000
/-! PL10: unpacking, pairs of assignments, is None, int, str, tuple, list, join, split, f-strings, enumerate. -/
namespace PL
open PySem PySem.Spec L2
variable {wW : World}
section
variable {X : Cx} {E : XK} {H0 : Hp} {e a b c tg : Expr} {f g h : En → M D} {es : List Expr} {pos p p0 : Pos} {x : Str} {ga : En → M (List D)} {Φ : Ent} {pt : Pt}
/-! ### unpacking -/
def sUn (pt : Pt) (f : En → M D) : En → M (Fl × En) := fun ρ => (f ρ).bind fun d => (opt (pt.set d ρ)).bind fun r => M.pure (.nx, r)
theorem js_un (he : JE X E Φ.H f e) (hg : PG X tg (pt.g X.K)) (hs : swapsWithSole [tg] e pos.line X.env = pure false := by rfl) (hw : swappedStores [tg] e X.env = pure none := by rfl)
    (h1 : (assignEach [tg] X.env).map (·.2) = [assign tg X.env] := by rfl) : JS X E Φ (sUn pt f) (.Assign [tg] e pos) := PS.imp (ps_asg he hg hs hw h1) fun Dn σ H ⟨G, μ, st, ρ, w, er, s, q⟩ =>
  ⟨G, μ, st, ρ, w, er, q.bind s fun d st' v H' G' μ' w' s' t' r q => by
    obtain ⟨ρ2, hset, q⟩ := PostS.opt q
    exact Pt.ok hset w' r (er.step s') fun σ2 er2 _ => q.nx w' er2 t'⟩
/-! ### a, b = x, y -/
def sPar (i j : Nat) (f g : En → M D) : En → M (Fl × En) := fun ρ => (f ρ).bind fun d => (g ρ).bind fun e => (opt (setAll [i, j] [d, e] ρ)).bind fun r => M.pure (.nx, r)
def sPar3 (i j k : Nat) (f g h : En → M D) : En → M (Fl × En) := fun ρ => (f ρ).bind fun d => (g ρ).bind fun e => (h ρ).bind fun u => (opt (setAll [i, j, k] [d, e, u] ρ)).bind fun r => M.pure (.nx, r)
/-- .. the second a list that is made -/
def sParO (i j : Nat) (f : En → M D) (g : En → M (List D)) : En → M (Fl × En) := fun ρ => (f ρ).bind fun d => (g ρ).bind fun e => (opt (setAll [i] [d] ρ)).bind fun r => put j (.own e) r
theorem setAll1 {i : Nat} {d : D} {ρ ρ' : En} (h : setAll [i] [d] ρ = some ρ') : i < ρ.length ∧ ρ' = ρ.set i (.val d) := by
  unfold setAll at h
  by_cases hi : i < ρ.length
  · rw [if_pos hi] at h; unfold setAll at h; cases h; exact ⟨hi, rfl⟩
  · rw [if_neg hi] at h; cases h
theorem setAllC {i : Nat} {d : D} {is : List Nat} {ds : List D} {ρ ρ' : En} (h : setAll (i :: is) (d :: ds) ρ = some ρ') : i < ρ.length ∧ setAll is ds (ρ.set i (.val d)) = some ρ' := by
  unfold setAll at h
  by_cases hi : i < ρ.length
  · rw [if_pos hi] at h; exact ⟨hi, h⟩
  · rw [if_neg hi] at h; cases h
section
variable {i j k : Nat} {y z : Str} {px py pz pt' : Pos} {kt k2 : Nat} {pt2 : Pos}
theorem js_par (hc : X.calm = true) (hN : X.N.Nodup) (hi : X.N[i]? = some x) (hj : X.N[j]? = some y) (ha : JE X E Φ.H f a) (hb : JE X E Φ.H g b) (hij : i ≠ j := by decide)
    (hx : X.env.scope.names.lookup x = some .local := by rfl) (hy : X.env.scope.names.lookup y = some .local := by rfl)
    (hw : swappedStores [.Tuple [.Name x px, .Name y py] kt pt'] (.Tuple [a, b] k2 pt2) X.env = pure (some [x, y]) := by rfl)
    (hs : swapsWithSole [.Tuple [.Name x px, .Name y py] kt pt'] (.Tuple [a, b] k2 pt2) pos.line X.env = pure false := by rfl)
    (h1 : starEach [a, b] X.env = (false, eval a X.env) :: starEach [b] X.env := by rfl) (h2 : starEach [b] X.env = (false, eval b X.env) :: starEach [] X.env := by rfl) :
    JS X E Φ (sPar i j f g) (.Assign [.Tuple [.Name x px, .Name y py] kt pt'] (.Tuple [a, b] k2 pt2) pos) := by
  refine PS.imp (ps_par hc hN hi hj hij hx hy (pa_cons ha (pa_cons hb pa_nil h2) h1) hw hs) fun Dn σ H ⟨G, μ, st, ρ, w, er, s, q⟩ => ?_
  refine ⟨G, μ, st, ρ, w, er, q.bind s fun d st1 v H1 G1 μ1 w1 s1 t1 r1 q1 => ⟨G1, μ1, st1, ρ, w1, er.step s1, q1.bind t1 fun e st2 u H2 G2 μ2 w2 s2 t2 r2 q2 => ?_⟩⟩
  obtain ⟨ρ2, hset, q3⟩ := PostS.opt q2
  obtain ⟨l1, hset⟩ := setAllC hset
  obtain ⟨l2, rfl⟩ := setAll1 hset
  exact ⟨v, u, rfl, q3.nx w2 (((er.step s1).step s2 |>.set l1 (r1.mono s2.g s2.m)).set l2 r2) t2⟩
theorem js_par3 (hc : X.calm = true) (hN : X.N.Nodup) (hi : X.N[i]? = some x) (hj : X.N[j]? = some y) (hk : X.N[k]? = some z) (ha : JE X E Φ.H f a) (hb : JE X E Φ.H g b) (hcc : JE X E Φ.H h c) (hij : i ≠ j := by decide) (hik : i ≠ k := by decide) (hjk : j ≠ k := by decide)
    (hx : X.env.scope.names.lookup x = some .local := by rfl) (hy : X.env.scope.names.lookup y = some .local := by rfl) (hz : X.env.scope.names.lookup z = some .local := by rfl)
    (hw : swappedStores [.Tuple [.Name x px, .Name y py, .Name z pz] kt pt'] (.Tuple [a, b, c] k2 pt2) X.env = pure (some [x, y, z]) := by rfl)
    (hs : swapsWithSole [.Tuple [.Name x px, .Name y py, .Name z pz] kt pt'] (.Tuple [a, b, c] k2 pt2) pos.line X.env = pure false := by rfl)
    (h1 : starEach [a, b, c] X.env = (false, eval a X.env) :: starEach [b, c] X.env := by rfl) (h2 : starEach [b, c] X.env = (false, eval b X.env) :: starEach [c] X.env := by rfl) (h3 : starEach [c] X.env = (false, eval c X.env) :: starEach [] X.env := by rfl) :
    JS X E Φ (sPar3 i j k f g h) (.Assign [.Tuple [.Name x px, .Name y py, .Name z pz] kt pt'] (.Tuple [a, b, c] k2 pt2) pos) := by
  refine PS.imp (L2.ps_par3 hc hN hi hj hk hij hik hjk hx hy hz (pa_cons ha (pa_cons hb (pa_cons hcc pa_nil h3) h2) h1) hw hs) fun Dn σ H ⟨G, μ, st, ρ, w, er, s, q⟩ => ?_
  refine ⟨G, μ, st, ρ, w, er, q.bind s fun d st1 v H1 G1 μ1 w1 s1 t1 r1 q1 => ⟨G1, μ1, st1, ρ, w1, er.step s1, q1.bind t1 fun e st2 u H2 G2 μ2 w2 s2 t2 r2 q2 =>
    ⟨G2, μ2, st2, ρ, w2, (er.step s1).step s2, q2.bind t2 fun e st3 u' H3 G3 μ3 w3 s3 t3 r3 q3 => ?_⟩⟩⟩
  obtain ⟨ρ2, hset, q4⟩ := PostS.opt q3
  obtain ⟨l1, hset⟩ := setAllC hset
  obtain ⟨l2, hset⟩ := setAllC hset
  obtain ⟨l3, rfl⟩ := setAll1 hset
  exact ⟨v, u, u', rfl, q4.nx w3 (((((er.step s1).step s2).step s3).set l1 ((r1.mono s2.g s2.m).mono s3.g s3.m)).set l2 (r2.mono s3.g s3.m) |>.set l3 r3) t3⟩
theorem parO_end {Dn : Ends} {gl : En → M (List D)} {ρ : En} {σ : L2.St} {H1 G1 H2 G2 : Hp} {μ1 μ2 : Mu} {st2 : Sto} {v u : V} {d : D} {ds : List D} (w2 : Wd X.w X.K H2 G2 μ2 st2) (er1 : ER X.K H1 G1 μ1 Φ.H ρ σ) (s2 : Stp H1 G1 μ1 H2 G2 μ2) (t1 : Stp Φ.H Φ.G Φ.μ H1 G1 μ1)
    (rv : Rep X.K G1 μ1 v d) (r : Fresh X.K H1 H2 G2 μ2 u ds) (q : PostS X E Φ Dn ((opt (setAll [i] [d] ρ)).bind (fun r => put j (.own ds) r) st2)) : Dn.nx ((σ.set i (some v)).set j (some u)) H2 := by
  obtain ⟨ρ2, hset, q⟩ := PostS.opt q
  obtain ⟨l1, rfl⟩ := setAll1 hset
  exact put_own q w2 (er1.set l1 rv) s2 t1 r
theorem js_parO {gl : En → M (List D)} (hc : X.calm = true) (hN : X.N.Nodup) (hi : X.N[i]? = some x) (hj : X.N[j]? = some y) (ha : JE X E Φ.H f a) (hb : JF X E Φ.H gl b) (hij : i ≠ j := by decide)
    (hx : X.env.scope.names.lookup x = some .local := by rfl) (hy : X.env.scope.names.lookup y = some .local := by rfl)
    (hw : swappedStores [.Tuple [.Name x px, .Name y py] kt pt'] (.Tuple [a, b] k2 pt2) X.env = pure (some [x, y]) := by rfl)
    (hs : swapsWithSole [.Tuple [.Name x px, .Name y py] kt pt'] (.Tuple [a, b] k2 pt2) pos.line X.env = pure false := by rfl)
    (h1 : starEach [a, b] X.env = (false, eval a X.env) :: starEach [b] X.env := by rfl) (h2 : starEach [b] X.env = (false, eval b X.env) :: starEach [] X.env := by rfl) :
    JS X E Φ (sParO i j f gl) (.Assign [.Tuple [.Name x px, .Name y py] kt pt'] (.Tuple [a, b] k2 pt2) pos) := by
  refine PS.imp (ps_par hc hN hi hj hij hx hy (pa_cons ha (pa_cons hb pa_nil h2) h1) hw hs) fun Dn σ H ⟨G, μ, st, ρ, w, er, s, q⟩ => ?_
  refine ⟨G, μ, st, ρ, w, er, q.bind s fun d st1 v H1 G1 μ1 w1 s1 t1 r1 q1 => ⟨G1, μ1, st1, ρ, w1, er.step s1, q1.bind t1 fun ds st2 u H2 G2 μ2 w2 s2 t2 r2 q2 => ?_⟩⟩
  exact ⟨v, u, rfl, parO_end (gl := gl) w2 (er.step s1) s2 t1 r1 r2 q2⟩
/-- .. where one of the names is a cell: by the pair -/
theorem js_parOC {gl : En → M (List D)} (hc : X.calm = true) (hg : PG X tg (gTup X.K 2 (gNames [i, j]))) (ha : JE X E Φ.H f a) (hb : JF X E Φ.H gl b)
    (hs : swapsWithSole [tg] (.Tuple [a, b] k2 pt2) pos.line X.env = pure false := by rfl) (hw : swappedStores [tg] (.Tuple [a, b] k2 pt2) X.env = pure none := by rfl) (h0 : (assignEach [tg] X.env).map (·.2) = [assign tg X.env] := by rfl)
    (h1 : starEach [a, b] X.env = (false, eval a X.env) :: starEach [b] X.env := by rfl) (h2 : starEach [b] X.env = (false, eval b X.env) :: starEach [] X.env := by rfl) :
    JS X E Φ (sParO i j f gl) (.Assign [tg] (.Tuple [a, b] k2 pt2) pos) := by
  refine PS.imp (ps_asg (pe_tup (pa_cons ha (pa_cons hb pa_nil h2) h1)) hg hs hw h0) fun Dn σ H ⟨G, μ, st, ρ, w, er, s, q⟩ => ?_
  refine ⟨G, μ, st, ρ, w, er, q.bind s fun d st1 v H1 G1 μ1 w1 s1 t1 r1 q1 => ⟨G1, μ1, st1, ρ, w1, er.step s1, q1.bind t1 fun ds st2 u H2 G2 μ2 w2 s2 t2 r2 q2 => ?_⟩⟩
  refine ⟨(by decide : 2 ≤ sizeLine), fun p hp => ?_⟩
  obtain ⟨w3, s3⟩ := w2.lay (o := .tup [v, u]) hp
  have r3 : Fresh X.K H1 (upd H2 p (.tup [v, u])) G2 μ2 u ds := by
    obtain ⟨l, vs, e1, e2, e3, e4, e5, e6⟩ := r2
    exact ⟨l, vs, e1, by rw [upd_ne (ne_of_none e2 hp)]; exact e2, e3, e4, e5, e6⟩
  exact ⟨p, _, rfl, .inl (.inl upd_same), rfl, v, _, rfl, u, _, rfl, rfl, parO_end (gl := gl) w3 (er.step s1) (s2.trans s3) t1 r1 r3 q2⟩
end
/-! ### is None -/
def D.isN : D → Bool
  | .non => true
  | _ => false
def isNM (d : D) : M D := PL.bl d.isN
def notNM (d : D) : M D := PL.bl (!d.isN)
theorem Rep.isN {K : PySem.W.Frag} {G : Hp} {μ : Mu} {v : V} {d : D} (r : Rep K G μ v d) : decide (v = .non) = d.isN := by
  cases r <;> simp [D.isN]
variable {k1 : Nat} {p1 : Pos}
theorem se_isN (neg : Bool) : ∀ σ H Q, Se X E H0 (rRep X.K) (e1 (fun d => PL.bl (if neg then !d.isN else d.isN)) f) σ H Q → (Se X E H0 (rRep X.K) f) σ H fun x H1 => Q (.bl (if neg then !decide (x = .non) else decide (x = .non))) H1 := fun σ H Q ⟨G, μ, st, ρ, w, er, q⟩ =>
  ⟨G, μ, st, ρ, w, er, Post.bind q fun d st1 v H1 G1 μ1 w1 s1 r1 q1 => by rw [r1.isN]; exact q1.bl w1⟩
theorem je_isN (ha : JE X E H0 f a) : JE X E H0 (e1 isNM f) (.Compare a [.Is] [.Constant .none k1 p1] pos) := PE.imp (pe_cmp (pc_isN ha)) fun σ H Q h => se_isN false σ H Q h
theorem je_notN (ha : JE X E H0 f a) : JE X E H0 (e1 notNM f) (.Compare a [.IsNot] [.Constant .none k1 p1] pos) := PE.imp (pe_cmp (pc_notN ha)) fun σ H Q h => se_isN true σ H Q h
theorem jt_isN (ha : JE X E H0 f a) : JT X E H0 (tBl (e1 isNM f)) (.Compare a [.Is] [.Constant .none k1 p1] pos) := PT.imp (pt_cmp (pc_isN ha)) fun σ H Q ⟨G, μ, st, ρ, w, er, q⟩ => by
  have e : tBl (e1 isNM f) ρ = (f ρ).bind fun d => M.pure d.isN := M.bind_assoc _ _ _
  rw [e] at q
  exact ⟨G, μ, st, ρ, w, er, Post.bind q fun d st1 v H1 G1 μ1 w1 s1 r1 q1 => ⟨d.isN, by rw [Rep.isN r1], q1 _ _ _ _ w1 .refl rfl⟩⟩
theorem jt_notN (ha : JE X E H0 f a) : JT X E H0 (tBl (e1 notNM f)) (.Compare a [.IsNot] [.Constant .none k1 p1] pos) := PT.imp (pt_cmp (pc_notN ha)) fun σ H Q ⟨G, μ, st, ρ, w, er, q⟩ => by
  have e : tBl (e1 notNM f) ρ = (f ρ).bind fun d => M.pure (!d.isN) := M.bind_assoc _ _ _
  rw [e] at q
  exact ⟨G, μ, st, ρ, w, er, Post.bind q fun d st1 v H1 G1 μ1 w1 s1 r1 q1 => ⟨!d.isN, by rw [Rep.isN r1], q1 _ _ _ _ w1 .refl rfl⟩⟩
/-! ### int, str, tuple, list -/
def intM : D → M D
  | .int i => M.pure (.int i)
  | .bl b => M.pure (.int (if b then 1 else 0))
  | .str a => guardM (decide (a.length ≤ 640)) ((opt (PySem.intText? a)).bind fun n => M.pure (.int n))
  | _ => M.bad
theorem c_int : C1J X E (fun xs H Q => ((∃ i, xs = [.int i] ∧ Q (.int i) H) ∨ ∃ k, xs = [.bl k] ∧ Q (.int (if k then 1 else 0)) H) ∨ ∃ a n, xs = [.str a] ∧ PySem.intText? a = some n ∧ a.length ≤ 640 ∧ Q (.int n) H) intM := fun H G μ st x dx Q w rx h => by
  cases dx with
  | int i => cases rx.int; exact .inl (.inl ⟨i, rfl, h _ _ _ _ w .refl (.int _)⟩)
  | bl b => cases rx.bl; exact .inl (.inr ⟨b, rfl, h _ _ _ _ w .refl (.int _)⟩)
  | str a =>
    cases rx.str
    obtain ⟨c, h⟩ := Post.guard h
    obtain ⟨n, hn, h⟩ := Post.opt h
    exact .inr ⟨a, n, rfl, hn, of_decide_eq_true c, h _ _ _ _ w .refl (.int _)⟩
  | _ => exact h.elim
theorem call_intA : CallR X (.type "int") (fun xs H Q => ((∃ i, xs = [.int i] ∧ Q (.int i) H) ∨ ∃ k, xs = [.bl k] ∧ Q (.int (if k then 1 else 0)) H) ∨ ∃ a n, xs = [.str a] ∧ PySem.intText? a = some n ∧ a.length ≤ 640 ∧ Q (.int n) H) := call_int1.or call_int_str
def strM : D → M D
  | .int i => guardM (decide (i.natAbs.log2 < 1920)) (M.pure (.str (toString i)))
  | _ => M.bad
theorem c_str : C1J X E (fun xs H Q => ∃ i, xs = [.int i] ∧ i.natAbs.log2 < 1920 ∧ Q (.str (toString i)) H) strM := fun H G μ st x dx Q w rx h => by
  cases dx with
  | int i =>
    cases rx.int
    obtain ⟨c, h⟩ := Post.guard h
    exact ⟨i, rfl, of_decide_eq_true c, h _ _ _ _ w .refl (.str _)⟩
  | _ => exact h.elim
def tupM (d : D) : M D := (opt (seqD d)).bind fun ds => M.pure (.tup ds)
theorem c_tup : C1J X E (fun xs H Q => ∃ p ys, xs = [.ref p] ∧ ((SqL X.K H p ys ∧ ∀ l, H l = none → Q (.ref l) (upd H l (.tup ys))) ∨ (SqT X.K H p ys ∧ Q (.ref p) H))) tupM := fun H G μ st x dx Q w rx h => by
  obtain ⟨ds, hs, h⟩ := Post.opt h
  have mk : ∀ {a : Addr} {vs : List V}, RepL X.K G μ vs ds → ∀ l, H l = none → Q (.ref l) (upd H l (.tup vs)) := fun r l hl => by
    obtain ⟨w2, s2⟩ := w.new (o := .tup _) hl
    exact h _ _ _ _ w2 s2 (.tup (.inl (.inl upd_same)) (r.mono s2.g s2.m))
  rcases rx with rx | ⟨a, vs, es, rfl, rfl, h1, r, _⟩
  · cases rx with
    | tup h1 r => cases hs; exact ⟨_, _, rfl, .inr ⟨w.imm.sqT h1, h _ _ _ _ w .refl (.tup h1 r)⟩⟩
    | @lst a vs es h1 r => cases hs; exact ⟨_, _, rfl, .inl ⟨.inl (.inl (w.imm _ _ h1)), mk (a := a) r⟩⟩
    | @frz a vs es h1 r => cases hs; exact ⟨_, _, rfl, .inl ⟨w.imm.sqL h1, mk (a := a) r⟩⟩
    | _ => cases hs
  · cases hs; exact ⟨a, vs, rfl, .inl ⟨.inl (.inl h1), mk (a := a) r⟩⟩
def lstM (d : D) : M D := (opt (seqD d)).bind fun ds => M.pure (.lst ds)
theorem c_lst : C1J X E (fun xs H Q => ∃ p ys, xs = [.ref p] ∧ (SqL X.K H p ys ∨ SqT X.K H p ys) ∧ ∀ l, H l = none → Q (.ref l) (upd H l (.lst ys))) lstM := fun H G μ st x dx Q w rx h => by
  obtain ⟨ds, hs, h⟩ := Post.opt h
  obtain ⟨a, vs, rfl, hq, r⟩ := rx.seq w.imm hs
  refine ⟨a, vs, rfl, hq, fun l hl => ?_⟩
  obtain ⟨w2, s2⟩ := w.new (o := .lst vs) hl
  exact h _ _ _ _ w2 s2 (.lst upd_same (r.mono s2.g s2.m))
/-! ### join, split -/
def strsD : List D → Option (List Str)
  | [] => some []
  | .str x :: ds => (strsD ds).map (x :: ·)
  | _ => none
theorem strs_rep {K : PySem.W.Frag} {G : Hp} {μ : Mu} : ∀ {vs : List V} {ds : List D} {xs : List Str}, RepL K G μ vs ds → strsD ds = some xs → vs = xs.map V.str
  | _, [], _, .nil, h => by unfold strsD at h; cases h; rfl
  | _, _ :: ds, _, .cons (.str b) r, h => by
    unfold strsD at h
    cases e : strsD ds with
    | none => rw [e] at h; cases h
    | some bs => rw [e] at h; cases h; rw [strs_rep r e]; rfl
  | _, _ :: _, _, .cons .non _, h => by unfold strsD at h; cases h
  | _, _ :: _, _, .cons (.int _) _, h => by unfold strsD at h; cases h
  | _, _ :: _, _, .cons (.bl _) _, h => by unfold strsD at h; cases h
  | _, _ :: _, _, .cons (.tup _ _) _, h => by unfold strsD at h; cases h
  | _, _ :: _, _, .cons (.lst _ _) _, h => by unfold strsD at h; cases h
  | _, _ :: _, _, .cons (.frz _ _) _, h => by unfold strsD at h; cases h
  | _, _ :: _, _, .cons (.ref _) _, h => by unfold strsD at h; cases h
theorem rep_strs {K : PySem.W.Frag} {G : Hp} {μ : Mu} : ∀ (xs : List Str), RepL K G μ (xs.map V.str) (xs.map D.str)
  | [] => .nil
  | x :: xs => .cons (.str x) (rep_strs xs)
/-- a method of a text with one argument -/
def eM1 (q : Str → D → M D) (f g : En → M D) : En → M D := fun ρ => (f ρ).bind fun d => match d with
  | .str a => (g ρ).bind fun y => q a y
  | _ => M.bad
def joinM (a : Str) (y : D) : M D := (opt (seqD y)).bind fun ds => (opt (strsD ds)).bind fun xs => guardM (decide ((xs.map (·.length)).sum + xs.length * a.length ≤ 16777216)) (M.pure (.str (Txt.join a xs)))
def splitM (a : Str) (y : D) : M D := match y with
  | .str b => guardM (!(b.length == 0) && decide (a.length + 2 ≤ sizeLine)) (M.pure (.lst ((Txt.split a b).map D.str)))
  | _ => M.bad
theorem se_m1 {r : V → List V → Hp → VK → Prop} {q : Str → D → M D} (hq : ∀ (H G : Hp) (μ : Mu) (st : Sto) (a : Str) (y : V) (dy : D) (Q : VK), Wd X.w X.K H G μ st → BRep X.K H G μ y dy → Post X.w X.K X.mg E (rRep X.K) H G μ (q a dy st) Q → r (.str a) [y] H Q) :
    ∀ σ H Q, Se X E H0 (rRep X.K) (eM1 q f g) σ H Q → tM1 r (Se X E H0 (rBRep X.K) f) (Se X E H0 (rBRep X.K) g) σ H Q := by
  intro σ H Q ⟨G, μ, st, ρ, w, er, k⟩
  refine ⟨G, μ, st, ρ, w, er, Post.bind k fun dx st1 x H1 G1 μ1 w1 s1 r1 k1 => ?_⟩
  cases dx with
  | str a =>
    have ex := r1.weak.str
    subst ex
    exact ⟨⟨a, rfl⟩, G1, μ1, st1, ρ, w1, er.step s1, Post.bind k1 fun dy st2 y H2 G2 μ2 w2 s2 r2 k2 => hq H2 G2 μ2 st2 a y dy Q w2 r2.weak k2⟩
  | _ => exact k1.elim
variable {apos : Pos}
theorem je_join (hf : JB X E H0 f a) (hg : JB X E H0 g b) (hs : starEach [b] X.env = [(false, eval b X.env)] := by rfl) (hbase : attributeBase a "join" X.env (eval a X.env) = eval a X.env := by rfl) (hline : (apos.endLine == pos.line) = true := by rfl) :
    JE X E H0 (eM1 joinM f g) (.Call (.Attribute a "join" apos) [b] [] pos) := PE.imp (pe_join hf hg hs hbase hline) (se_m1 fun H G μ st s y dy Q w ry k => by
  obtain ⟨ds, hd, k⟩ := Post.opt k
  obtain ⟨xs, hx, k⟩ := Post.opt k
  obtain ⟨c, k⟩ := Post.guard k
  obtain ⟨l, vs, rfl, hq, r⟩ := ry.seq w.imm hd
  have e := strs_rep r hx
  subst e
  exact ⟨s, l, xs, rfl, rfl, hq, of_decide_eq_true c, k _ _ _ _ w .refl (.str _)⟩)
theorem je_split (hf : JB X E H0 f a) (hg : JB X E H0 g b) (hs : starEach [b] X.env = [(false, eval b X.env)] := by rfl) (hbase : attributeBase a "split" X.env (eval a X.env) = eval a X.env := by rfl) (hline : (apos.endLine == pos.line) = true := by rfl) :
    JE X E H0 (eM1 splitM f g) (.Call (.Attribute a "split" apos) [b] [] pos) := PE.imp (pe_split hf hg hs hbase hline) (se_m1 fun H G μ st s y dy Q w ry k => by
  cases dy with
  | str z =>
    cases ry.str
    obtain ⟨c, k⟩ := Post.guard k
    rw [Bool.and_eq_true] at c
    refine ⟨s, z, rfl, rfl, by simpa using c.1, of_decide_eq_true c.2, fun l hl => ?_⟩
    obtain ⟨w2, s2⟩ := w.new (o := .lst ((Txt.split s z).map V.str)) hl
    exact k _ _ _ _ w2 s2 (.lst upd_same (rep_strs _))
  | _ => exact k.elim)
/-! ### f-strings -/
def fmtM : D → M D
  | .str y => (line y.length).bind fun _ => M.pure (.str y)
  | .int i => guardM (decide (i.natAbs.log2 < 1920)) (M.pure (.str (toString i)))
  | _ => M.bad
theorem je_fmt (ha : JE X E H0 f a) : JE X E H0 (e1 fmtM f) (.FormattedValue a (-1) none pos) := PE.imp (pe_fmt ha) fun σ H Q ⟨G, μ, st, ρ, w, er, q⟩ =>
  ⟨G, μ, st, ρ, w, er, Post.bind q fun d st1 v H1 G1 μ1 w1 s1 r1 q1 => by
    cases r1 with
    | str y =>
      obtain ⟨c, q1⟩ := Post.line (X := X) q1
      exact .inl ⟨y, rfl, c, q1 _ _ _ _ w1 .refl (.str _)⟩
    | int i =>
      obtain ⟨c, q1⟩ := Post.guard q1
      exact .inr ⟨i, rfl, of_decide_eq_true c, q1 _ _ _ _ w1 .refl (.str _)⟩
    | _ => exact q1.elim⟩
inductive JJ (X : Cx) (E : XK) (H0 : Hp) : List (En → M D) → List Expr → Prop
  | nil : JJ X E H0 [] []
  | cons {f : En → M D} {e : Expr} {fs : List (En → M D)} {es : List Expr} : JE X E H0 f e → JJ X E H0 fs es → JJ X E H0 (f :: fs) (e :: es)
def fjM : List (En → M D) → Str → En → M Str
  | [], acc, _ => M.pure acc
  | f :: fs, acc, ρ => (f ρ).bind fun d => match d with
    | .str y => (line (acc ++ y).length).bind fun _ => fjM fs (acc ++ y) ρ
    | _ => M.bad
def eFj (fs : List (En → M D)) : En → M D := fun ρ => (fjM fs Str.empty ρ).bind fun s => M.pure (.str s)
theorem JJ.pj {fs : List (En → M D)} {es : List Expr} (h : JJ X E H0 fs es) : PJ X es (fs.map fun f => Se X E H0 (rRep X.K) f) := by
  induction h with
  | nil => exact .nil
  | cons a b ih => exact .cons a ih
theorem se_fj : ∀ (fs : List (En → M D)) (acc : Str) (σ : L2.St) (H : Hp) (Q : Str → Hp → Prop), Se X E H0 rEq (fjM fs acc) σ H Q → tJs (fs.map fun f => Se X E H0 (rRep X.K) f) acc σ H Q
  | [], acc, σ, H, Q, ⟨G, μ, st, ρ, w, er, q⟩ => q acc H G μ w .refl rfl
  | f :: fs, acc, σ, H, Q, ⟨G, μ, st, ρ, w, er, q⟩ => ⟨G, μ, st, ρ, w, er, Post.bind q fun d st1 v H1 G1 μ1 w1 s1 r1 q1 => by
    cases r1 with
    | str y =>
      obtain ⟨c, q1⟩ := Post.line (X := X) q1
      exact ⟨y, rfl, c, se_fj fs _ σ H1 Q ⟨G1, μ1, st1, ρ, w1, er.step s1, q1⟩⟩
    | _ => exact q1.elim⟩
theorem je_fj {fs : List (En → M D)} {v1 v2 : Expr} {rest : List Expr} (hh : JJ X E H0 fs (v1 :: v2 :: rest)) : JE X E H0 (eFj fs) (.JoinedStr (v1 :: v2 :: rest) pos) := PE.imp (pe_joined hh.pj) fun σ H Q ⟨G, μ, st, ρ, w, er, q⟩ =>
  se_fj fs _ _ _ _ ⟨G, μ, st, ρ, w, er, Post.bind q fun d st1 v H1 G1 μ1 w1 s1 r1 q1 => by cases r1; exact q1 _ _ _ _ w1 .refl (.str _)⟩
/-! ### enumerate -/
def numb : Nat → List D → List D
  | _, [] => []
  | n, d :: ds => .tup [.int n, d] :: numb (n + 1) ds
theorem numb_len : ∀ (n : Nat) (ds : List D), (numb n ds).length = ds.length
  | _, [] => rfl
  | n, _ :: ds => congrArg (· + 1) (numb_len (n + 1) ds)
theorem numb_get : ∀ (n i : Nat) (ds : List D), (numb n ds)[i]? = (ds[i]?).map fun d => D.tup [.int ((n + i : Nat) : Int), d]
  | _, _, [] => by simp [numb]
  | n, 0, d :: ds => by simp [numb]
  | n, i + 1, d :: ds => by
    have := numb_get (n + 1) i ds
    simp only [numb, List.getElem?_cons_succ, this]
    rw [show n + 1 + i = n + (i + 1) by omega]
def iEnumD (g : En → M (List D)) : En → M (List D) := fun ρ => (g ρ).bind fun ds => match ds with
  | [.lst xs] => (line xs.length).bind fun _ => M.pure (numb 0 xs)
  | _ => M.bad
theorem ite_ok {K : PySem.W.Frag} {G : Hp} {μ : Mu} {a : Addr} {vs : List V} {ds : List D} (hl : SqL K G a vs) (r : RepL K G μ vs ds) (hz : ds.length ≤ sizeLine) : ItR wW K G μ (Ite K a) (numb 0 ds) := by
  refine ⟨by rw [numb_len]; exact hz, fun H1 G1 μ1 st1 w sg sm => ⟨fun i hi => ?_, fun i hi => ?_⟩⟩
  · rw [numb_len] at hi
    have h1 : SqL K H1 a vs := (sg.trans w.imm).sqL hl
    obtain ⟨v, hv, rv⟩ := r.get (List.getElem?_eq_getElem hi)
    refine ⟨⟨vs, v, h1, hv⟩, fun x H2 ⟨T, y, ex, hT, eH, hy⟩ => ?_⟩
    subst ex eH
    have ey : y = v := Option.some.inj ((hy vs h1).symm.trans hv)
    subst ey
    obtain ⟨w2, s2⟩ := w.new (o := .tup [.int (i : Nat), y]) hT
    refine ⟨_, w2, s2, _, by rw [numb_get, List.getElem?_eq_getElem hi]; rfl, ?_⟩
    rw [Nat.zero_add]
    exact .tup (.inl (.inl upd_same)) (.cons (.int _) (.cons ((rv.mono sg sm).mono s2.g s2.m) .nil))
  · rw [numb_len] at hi
    exact ⟨vs, (sg.trans w.imm).sqL hl, by rw [RepL.length r]; exact hi⟩
theorem ji_enum {elts : List Expr} {kk : Nat} {tpos : Pos} (hg : Gl X "enumerate") (hm : X.mg "enumerate" = none) (ha : JA X E H0 ga [a]) (hs : starEach [a] X.env = [(false, eval a X.env)] := by rfl) :
    JI X E H0 (.Tuple elts kk tpos) (iEnumD ga) (.Call (.Name "enumerate" p) [a] [] pos) := by
  refine PI.imp (pi_enum hg hm ha hs) fun σ H R ⟨G, μ, st, ρ, w, er, q⟩ => ?_
  refine ⟨G, μ, st, ρ, w, er, Post.raw q fun ds st1 vs H1 G1 μ1 w1 s1 r1 q1 => ?_⟩
  cases r1 with
  | nil => exact q1.elim
  | cons h t =>
    cases t with
    | cons _ _ => cases h <;> exact q1.elim
    | nil =>
      cases h with
      | lst h1 rr =>
        obtain ⟨c, q1⟩ := Post.line (X := X) q1
        exact ⟨_, _, rfl, w1.imm.sqL (.inl (.inl h1)), q1 _ _ _ _ w1 s1 (ite_ok (.inl (.inl h1)) rr c)⟩
      | _ => exact q1.elim
end
end PL

set_option linter.all false
set_option maxRecDepth 100000
set_option maxHeartbeats 4000000
/-! PL11: dicts of the store: displays, d[k], d[k] = v, k in d. -/
namespace PL
open PySem PySem.Spec L2
variable {wW : World}
/-- k in its place, or at the end -/
def putD (kvs : List (Key × D)) (k : Key) (d : D) : List (Key × D) := if (kvs.any fun q => decide (q.1 = k)) = true then kvs.map (fun q => if q.1 = k then (q.1, d) else q) else kvs ++ [(k, d)]
def valD (k : Key) : List (Key × D) → Option D
  | [] => none
  | p :: r => if p.1 = k then some p.2 else valD k r
def keyD : D → Option Key
  | .int i => some (.inl i)
  | .str x => some (.inr x)
  | _ => none
section
variable {K : PySem.W.Frag} {G H : Hp} {μ : Mu}
/-- the pairs ws are kvs; no key stands twice -/
structure KR (K : PySem.W.Frag) (G : Hp) (μ : Mu) (ws : List (Key × V)) (kvs : List (Key × D)) : Prop where
  k : ws.map (·.1) = kvs.map (·.1)
  v : RepL K G μ (ws.map (·.2)) (kvs.map (·.2))
theorem KR.nil : KR K G μ [] [] := ⟨rfl, .nil⟩
theorem KR.cons {k : Key} {v : V} {d : D} {ws : List (Key × V)} {kvs : List (Key × D)} (h : Rep K G μ v d) (r : KR K G μ ws kvs) : KR K G μ ((k, v) :: ws) ((k, d) :: kvs) := ⟨by simp [r.k], .cons h r.v⟩
theorem KR.split {ws : List (Key × V)} {p : Key × D} {kvs : List (Key × D)} (r : KR K G μ ws (p :: kvs)) : ∃ v ws', ws = (p.1, v) :: ws' ∧ Rep K G μ v p.2 ∧ KR K G μ ws' kvs := by
  obtain ⟨e, r⟩ := r
  cases ws with
  | nil => simp at e
  | cons q ws =>
    simp only [List.map_cons, List.cons.injEq] at e
    cases r with
    | cons h t => exact ⟨q.2, ws, by rw [← e.1], h, e.2, t⟩
def ValR (K : PySem.W.Frag) (G : Hp) (μ : Mu) (ws : List (Key × V)) (k : Key) : Option D → Prop
  | some d => ∃ v, valV ws k = some v ∧ Rep K G μ v d
  | none => valV ws k = none
theorem KR.val : ∀ {kvs : List (Key × D)} {ws : List (Key × V)} (r : KR K G μ ws kvs) (k : Key), ValR K G μ ws k (valD k kvs)
  | [], ws, r, k => by
    have : ws = [] := by simpa using r.k
    subst this; rfl
  | p :: kvs, ws, r, k => by
    obtain ⟨v, ws', rfl, h, t⟩ := r.split
    unfold valD
    by_cases e : p.1 = k
    · rw [if_pos e]; exact ⟨v, valV_pos (p := (p.1, v)) e, h⟩
    · rw [if_neg e]
      have ih := KR.val t k
      cases q : valD k kvs with
      | none => rw [q] at ih; exact (valV_neg (p := (p.1, v)) e).trans ih
      | some d => rw [q] at ih; obtain ⟨u, h1, h2⟩ := ih; exact ⟨u, (valV_neg (p := (p.1, v)) e).trans h1, h2⟩
theorem KR.any : ∀ {kvs : List (Key × D)} {ws : List (Key × V)} (r : KR K G μ ws kvs) (k : Key), (ws.any fun q => decide (q.1 = k)) = kvs.any fun q => decide (q.1 = k)
  | [], ws, r, k => by
    have : ws = [] := by simpa using r.k
    subst this; rfl
  | p :: kvs, ws, r, k => by
    obtain ⟨v, ws', rfl, h, t⟩ := r.split
    rw [List.any_cons, List.any_cons, KR.any t k]
theorem KR.mapp {k : Key} {v : V} {d : D} (h : Rep K G μ v d) : ∀ {kvs : List (Key × D)} {ws : List (Key × V)}, KR K G μ ws kvs → KR K G μ (ws.map fun q => if q.1 = k then (q.1, v) else q) (kvs.map fun q => if q.1 = k then (q.1, d) else q)
  | [], ws, r => by
    have : ws = [] := by simpa using r.k
    subst this; exact .nil
  | p :: kvs, ws, r => by
    obtain ⟨u, ws', rfl, hu, t⟩ := r.split
    rw [List.map_cons, List.map_cons]
    by_cases e : p.1 = k
    · rw [if_pos e, if_pos e]; exact .cons h (KR.mapp h t)
    · rw [if_neg e, if_neg e]; exact .cons hu (KR.mapp h t)
theorem KR.app {k : Key} {v : V} {d : D} (h : Rep K G μ v d) : ∀ {kvs : List (Key × D)} {ws : List (Key × V)}, KR K G μ ws kvs → KR K G μ (ws ++ [(k, v)]) (kvs ++ [(k, d)])
  | [], ws, r => by
    have : ws = [] := by simpa using r.k
    subst this; exact .cons h .nil
  | p :: kvs, ws, r => by
    obtain ⟨u, ws', rfl, hu, t⟩ := r.split
    exact .cons hu (KR.app h t)
theorem KR.put {k : Key} {v : V} {d : D} (h : Rep K G μ v d) {kvs : List (Key × D)} {ws : List (Key × V)} (r : KR K G μ ws kvs) : KR K G μ (putK ws k v) (putD kvs k d) := by
  unfold putK putD
  rw [r.any k]
  split
  · exact r.mapp h
  · exact r.app h
theorem KR.mono {G' : Hp} {μ' : Mu} {ws : List (Key × V)} {kvs : List (Key × D)} (r : KR K G μ ws kvs) (s : Sub G G') (m : SubM μ μ') : KR K G' μ' ws kvs := ⟨r.k, r.v.mono s m⟩
theorem OR.kr {a : Addr} {kvs : List (Key × D)} (x : OR wW K G μ H a (.dict kvs)) : ∃ ws, H a = some (.dK ws) ∧ KR K G μ ws kvs := let ⟨ws, h, k, r⟩ := x; ⟨ws, h, k, r⟩
theorem KR.or {a : Addr} {ws : List (Key × V)} {kvs : List (Key × D)} (r : KR K G μ ws kvs) (h : H a = some (.dK ws)) : OR wW K G μ H a (.dict kvs) := ⟨ws, h, r.k, r.v⟩
theorem rep_key {v : V} {d : D} {k : Key} (r : Rep K G μ v d) (h : keyD d = some k) : v = kV k := by
  cases r <;> cases h <;> rfl
theorem KR.len {ws : List (Key × V)} {kvs : List (Key × D)} (r : KR K G μ ws kvs) : ws.length = kvs.length := by
  have := congrArg List.length r.k
  simpa using this
end
/-! ### d[k], k in d, d[k] = v -/
def dictAt (n : Nat) : M (List (Key × D)) := fun st => match st[n]? with
  | some (.dict kvs) => .ok kvs st
  | _ => .bad
def refD : D → Option Nat
  | .ref n => some n
  | _ => none
def dgM (x y : D) : M D := (opt (refD x)).bind fun n => (opt (keyD y)).bind fun k => (dictAt n).bind fun kvs => opt (valD k kvs)
def dinM (neg : Bool) (y x : D) : M D := (opt (refD x)).bind fun n => (opt (keyD y)).bind fun k => (dictAt n).bind fun kvs => PL.bl (if neg then !(valD k kvs).isSome else (valD k kvs).isSome)
def setAt (n : Nat) (o : Ob) : M Unit := fun st => .ok () (st.set n o)
def dpM (x y v : D) : M Unit := (opt (refD x)).bind fun n => (opt (keyD y)).bind fun k => (dictAt n).bind fun kvs => guardM (decide (kvs.length < sizeLine)) (setAt n (.dict (putD kvs k v)))
section
variable {X : Cx} {E : XK} {H0 : Hp} {e a b c o i : Expr} {f g h : En → M D} {pos p p0 : Pos} {Φ : Ent}
theorem Post.dict {α β : Type} {K : PySem.W.Frag} {mg : Str → Option Value} {R : RR β α} {H G : Hp} {μ : Mu} {n : Nat} {k : List (Key × D) → M α} {st : Sto} {Q : β → Hp → Prop} (q : Post wW K mg E R H G μ ((dictAt n).bind k st) Q) : ∃ kvs, st[n]? = some (.dict kvs) ∧ Post wW K mg E R H G μ (k kvs st) Q := by
  unfold M.bind dictAt at q
  cases e : st[n]? with
  | none => rw [e] at q; exact q.elim
  | some o =>
    rw [e] at q
    cases o with
    | dict kvs => exact ⟨kvs, rfl, q⟩
    | lst _ => exact q.elim
    | ins _ _ => exact q.elim
    | tab _ _ => exact q.elim
    | nd _ => exact q.elim
theorem Rep.dict {K : PySem.W.Frag} {H G : Hp} {μ : Mu} {st : Sto} {v : V} {d : D} {n : Nat} {kvs : List (Key × D)} (r : Rep K G μ v d) (hn : refD d = some n) (w : Wd wW K H G μ st) (hs : st[n]? = some (.dict kvs)) : ∃ l ws, v = .ref l ∧ μ n = some l ∧ H l = some (.dK ws) ∧ KR K G μ ws kvs := by
  cases r with
  | ref hm =>
    cases hn
    obtain ⟨l, h1, h2, h3⟩ := w.obj n _ hs
    rw [hm] at h1; cases h1
    obtain ⟨ws, h4, h5⟩ := h3.kr
    exact ⟨_, ws, rfl, hm, h4, h5⟩
  | _ => cases hn
theorem je_dget (hu : X.A.units + 1 < cLine) (ho : JE X E H0 f o) (hi : JE X E H0 g i) (hs : NoSl i := by intro _ _; rfl) : JE X E H0 (e2 dgM f g) (.Subscript o i pos) := by
  refine PE.imp (pe_dget hu ho hi hs) fun σ H Q ⟨G, μ, st, ρ, w, er, q⟩ => ?_
  refine ⟨G, μ, st, ρ, w, er, Post.bind q fun dx st1 x H1 G1 μ1 w1 s1 r1 q1 => ⟨G1, μ1, st1, ρ, w1, er.step s1, Post.bind q1 fun dy st2 y H2 G2 μ2 w2 s2 r2 q2 => ?_⟩⟩
  obtain ⟨n, hn, q2⟩ := Post.opt q2
  obtain ⟨k, hk, q2⟩ := Post.opt q2
  obtain ⟨kvs, hd, q2⟩ := Post.dict q2
  obtain ⟨l, ws, rfl, _, h4, h5⟩ := (r1.mono s2.g s2.m).dict hn w2 hd
  have ey := rep_key r2 hk
  subst ey
  have hv := h5.val k
  cases e : valD k kvs with
  | none => rw [e] at q2; exact q2.elim
  | some d =>
    rw [e] at hv q2
    obtain ⟨v, h6, h7⟩ := hv
    exact ⟨l, v, rfl, by rw [← h6]; exact DGet.k h4, q2 _ _ _ _ w2 .refl h7⟩
theorem se_din (neg : Bool) : ∀ σ H Q, Se X E H0 (rRep X.K) (e2 (dinM neg) f g) σ H Q → (Se X E H0 (rRep X.K) f) σ H fun y H1 => (Se X E H0 (rRep X.K) g) σ H1 fun x H2 => ∃ l w, x = .ref l ∧ DGet H2 l y w ∧ Q (.bl (if neg then !w.isSome else w.isSome)) H2 := fun σ H Q ⟨G, μ, st, ρ, w, er, q⟩ => by
  refine ⟨G, μ, st, ρ, w, er, Post.bind q fun dx st1 x H1 G1 μ1 w1 s1 r1 q1 => ⟨G1, μ1, st1, ρ, w1, er.step s1, Post.bind q1 fun dy st2 y H2 G2 μ2 w2 s2 r2 q2 => ?_⟩⟩
  obtain ⟨n, hn, q2⟩ := Post.opt q2
  obtain ⟨k, hk, q2⟩ := Post.opt q2
  obtain ⟨kvs, hd, q2⟩ := Post.dict q2
  obtain ⟨l, ws, rfl, _, h4, h5⟩ := r2.dict hn w2 hd
  have ey := rep_key (r1.mono s2.g s2.m) hk
  subst ey
  refine ⟨l, valV ws k, rfl, DGet.k h4, ?_⟩
  have e : (valV ws k).isSome = (valD k kvs).isSome := by
    have hv := h5.val k
    cases e : valD k kvs with
    | none => rw [e] at hv; have hv' : valV ws k = none := hv; rw [hv']; rfl
    | some d => rw [e] at hv; obtain ⟨v, h6, _⟩ := hv; rw [h6]; rfl
  rw [e]
  exact q2.bl w2
theorem se_test : ∀ σ H (Q : Bool → Hp → Prop), Se X E H0 rTrue (tBl f) σ H Q → Se X E H0 (rRep X.K) f σ H fun x H1 => ∃ c, x = .bl c ∧ Q c H1 := fun σ H Q ⟨G, μ, st, ρ, w, er, q⟩ =>
  ⟨G, μ, st, ρ, w, er, Post.bind q fun d st1 x H1 G1 μ1 w1 s1 r1 q1 => by
    cases r1 with
    | bl b => exact ⟨b, rfl, q1 _ _ _ _ w1 .refl rfl⟩
    | _ => exact q1.elim⟩
theorem je_din (hu : X.A.units + 1 < cLine) (ha : JE X E H0 f i) (hb : JE X E H0 g o) (hm : behindInMarks .In o = false := by rfl) : JE X E H0 (e2 (dinM false) f g) (.Compare i [.In] [o] pos) := PE.imp (pe_cmp (pc_din hu ha hb) hm) fun σ H Q h => se_din false σ H Q h
theorem je_dnotIn (hu : X.A.units + 1 < cLine) (ha : JE X E H0 f i) (hb : JE X E H0 g o) (hm : behindInMarks .NotIn o = false := by rfl) : JE X E H0 (e2 (dinM true) f g) (.Compare i [.NotIn] [o] pos) := PE.imp (pe_cmp (pc_dnotin hu ha hb) hm) fun σ H Q h => se_din true σ H Q h
theorem jt_din (hu : X.A.units + 1 < cLine) (ha : JE X E H0 f i) (hb : JE X E H0 g o) (hm : behindInMarks .In o = false := by rfl) : JT X E H0 (tBl (e2 (dinM false) f g)) (.Compare i [.In] [o] pos) := PT.imp (pt_cmp (pc_din hu ha hb) hm) fun σ H Q h => se_din false σ H _ (se_test σ H Q h)
theorem jt_dnotIn (hu : X.A.units + 1 < cLine) (ha : JE X E H0 f i) (hb : JE X E H0 g o) (hm : behindInMarks .NotIn o = false := by rfl) : JT X E H0 (tBl (e2 (dinM true) f g)) (.Compare i [.NotIn] [o] pos) := PT.imp (pt_cmp (pc_dnotin hu ha hb) hm) fun σ H Q h => se_din true σ H _ (se_test σ H Q h)
def sDPut (fo fi fv : En → M D) : En → M (Fl × En) := fun ρ => (fv ρ).bind fun v => (fo ρ).bind fun x => (fi ρ).bind fun y => (dpM x y v).bind fun _ => M.pure (.nx, ρ)
theorem js_dput {value : Expr} {pos' : Pos} (hu : X.A.units + 1 < cLine) (ho : JE X E Φ.H f o) (hi : JE X E Φ.H g i) (hv : JE X E Φ.H h value) (hs : swapsWith value (some (.Subscript o i pos')) pos.line X.env = pure false := by rfl) :
    JS X E Φ (sDPut f g h) (.Assign [.Subscript o i pos'] value pos) := by
  refine PS.imp (ps_dput hu ho hi hv hs) fun Dn σ H ⟨G, μ, st, ρ, w, er, s, q⟩ => ?_
  refine ⟨G, μ, st, ρ, w, er, q.bind s fun dv st1 v H1 G1 μ1 w1 s1 t1 r1 q1 => ⟨G1, μ1, st1, ρ, w1, er.step s1, q1.bind t1 fun dx st2 x H2 G2 μ2 w2 s2 t2 r2 q2 =>
    ⟨G2, μ2, st2, ρ, w2, (er.step s1).step s2, q2.bind t2 fun dy st3 y H3 G3 μ3 w3 s3 t3 r3 q3 => ?_⟩⟩⟩
  have r1' := (r1.mono s2.g s2.m).mono s3.g s3.m
  unfold dpM at q3
  rw [M.bind_assoc] at q3
  obtain ⟨n, hn, q3⟩ := PostS.opt q3
  rw [M.bind_assoc] at q3
  obtain ⟨k, hk, q3⟩ := PostS.opt q3
  rw [M.bind_assoc] at q3
  unfold M.bind dictAt at q3
  cases e : st3[n]? with
  | none => rw [e] at q3; exact q3.elim
  | some ob =>
    rw [e] at q3
    cases ob with
    | lst _ => exact q3.elim
    | ins _ _ => exact q3.elim
    | tab _ _ => exact q3.elim
    | nd _ => exact q3.elim
    | dict kvs =>
      obtain ⟨l, ws, rfl, hm, h4, h5⟩ := (r2.mono s3.g s3.m).dict hn w3 e
      have ey := rep_key r3 hk
      subst ey
      by_cases hz : kvs.length < sizeLine
      · have q4 : PostS X E Φ Dn (.ok (.nx, ρ) (st3.set n (.dict (putD kvs k dv)))) := by
          have := q3
          simp only [guardM, hz, decide_true, if_true, setAt, M.pure] at this
          exact this
        obtain ⟨w4, s4⟩ := w3.write (x := .dict (putD kvs k dv)) (o := .dK (putK ws k v)) e hm ((h5.put r1').or upd_same)
        exact ⟨l, _, rfl, DPut.k h4 (by rw [h5.len]; exact hz), q4 _ _ _ _ w4 ((((er.step s1).step s2).step s3).step s4) (t3.trans s4)⟩
      · have : False := by
          have := q3
          simp only [guardM, hz, decide_false] at this
          exact this
        exact this.elim
/-! ### {'k': v, ..} -/
def aL : List (En → M D) → En → M (List D)
  | [], _ => M.pure []
  | f :: fs, ρ => (f ρ).bind fun x => (aL fs ρ).bind fun xs => M.pure (x :: xs)
def putAll (kvs more : List (Key × D)) : List (Key × D) := more.foldl (fun acc q => putD acc q.1 q.2) kvs
def newOb (o : Ob) : M D := fun st => .ok (.ref st.length) (st ++ [o])
def eDict (ks : List Str) (fs : List (En → M D)) : En → M D := fun ρ => (aL fs ρ).bind fun ds => newOb (.dict (putAll [] ((ks.map Sum.inr).zip ds)))
theorem KR.all {K : PySem.W.Frag} {G : Hp} {μ : Mu} : ∀ {vs : List V} {ds : List D} (ks : List Str) {ws : List (Key × V)} {kvs : List (Key × D)}, RepL K G μ vs ds → KR K G μ ws kvs → KR K G μ (mergeK ws ((ks.map Sum.inr).zip vs)) (putAll kvs ((ks.map Sum.inr).zip ds))
  | _, _, [], _, _, _, q => by simpa [mergeK, putAll] using q
  | _, _, k :: ks, _, _, .nil, q => by simpa [mergeK, putAll] using q
  | _, _, k :: ks, _, _, .cons h t, q => KR.all ks t (q.put h)
/-- the trees' readings -/
def trsOf (X : Cx) (E : XK) (H0 : Hp) : List Str → List (En → M D) → List (TE × TE)
  | k :: ks, f :: fs => (tC (.str k), Se X E H0 (rRep X.K) f) :: trsOf X E H0 ks fs
  | _, _ => []
theorem se_pairs : ∀ (fs : List (En → M D)) (ks : List Str) (σ : L2.St) (H : Hp) (Q' : List V → Hp → Prop) (Q : List (V × V) → Hp → Prop), ks.length = fs.length → Se X E H0 (rRepL X.K) (aL fs) σ H Q' → (∀ vs H', Q' vs H' → Q ((ks.map V.str).zip vs) H') → tPairs (trsOf X E H0 ks fs) σ H Q
  | [], [], σ, H, Q', Q, _, ⟨G, μ, st, ρ, w, er, q⟩, k => k [] H (q [] H G μ w .refl .nil)
  | f :: fs, x :: ks, σ, H, Q', Q, hl, ⟨G, μ, st, ρ, w, er, q⟩, k => by
    refine ⟨G, μ, st, ρ, w, er, Post.bind q fun d st1 v H1 G1 μ1 w1 s1 r1 q1 => ?_⟩
    refine se_pairs fs ks σ H1 (fun vs H' => Q' (v :: vs) H') _ (by simpa using hl) ⟨G1, μ1, st1, ρ, w1, er.step s1, Post.bind q1 fun ds st2 vs H2 G2 μ2 w2 s2 r2 q2 => q2 _ _ _ _ w2 .refl (.cons (r1.mono s2.g s2.m) r2)⟩ fun vs H' h => k (v :: vs) H' h
  | [], _ :: _, _, _, _, _, hl, _, _ => by simp at hl
  | _ :: _, [], _, _, _, _, hl, _, _ => by simp at hl
inductive JP (X : Cx) (E : XK) (H0 : Hp) (pos : Pos) : List Str → List (En → M D) → List (Option Expr) → List Expr → Prop
  | nil : JP X E H0 pos [] [] [] []
  | cons {k : Str} {j : Nat} {pk : Pos} {f : En → M D} {e : Expr} {ks : List Str} {fs : List (En → M D)} {kes : List (Option Expr)} {es : List Expr} : JE X E H0 f e → JP X E H0 pos ks fs kes es → JP X E H0 pos (k :: ks) (f :: fs) (some (.Constant (.str k) j pk) :: kes) (e :: es)
theorem JP.pps {ks : List Str} {fs : List (En → M D)} {kes : List (Option Expr)} {es : List Expr} (h : JP X E H0 pos ks fs kes es) : PPs X pos kes es (trsOf X E H0 ks fs) := by
  induction h with
  | nil => exact pps_nil
  | cons a b ih => exact pps_cons pe_str a ih
theorem JP.len {ks : List Str} {fs : List (En → M D)} {kes : List (Option Expr)} {es : List Expr} (h : JP X E H0 pos ks fs kes es) : ks.length = fs.length ∧ kes.length = fs.length ∧ es.length = fs.length ∧ kes.all (·.isSome) = true := by
  induction h with
  | nil => exact ⟨rfl, rfl, rfl, rfl⟩
  | cons a b ih => obtain ⟨h1, h2, h3, h4⟩ := ih; exact ⟨by simp [h1], by simp [h2], by simp [h3], by simp [h4]⟩
section
variable {K : PySem.W.Frag} {H G H1 G1 : Hp} {μ μ1 : Mu} {st : Sto}
/-- an object that nobody holds comes into the store -/
theorem Wd.adopt (w : Wd wW K H G μ st) {p : Addr} {o : HO} {x : Ob} (gp : G p = none) (np : ∀ n, μ n ≠ some p) (hx : OR wW K G (muAdd μ st.length p) (upd H p o) p x) : Wd wW K (upd H p o) G (muAdd μ st.length p) (st ++ [x]) := by
  have nn : μ st.length = none := by
    cases q : μ st.length with
    | none => rfl
    | some a => exact absurd (w.dom _ _ q) (Nat.lt_irrefl _)
  have sm : SubM μ (muAdd μ st.length p) := fun n a h => by
    unfold muAdd; rw [if_neg (fun e => by rw [e, nn] at h; cases h)]; exact h
  refine ⟨fun a u h => by rw [upd_ne (fun z => by rw [z, gp] at h; cases h)]; exact w.imm _ _ h, fun n y e => ?_, fun n m a e1 e2 => ?_, fun n a e => ?_⟩
  · by_cases hn : n = st.length
    · subst hn
      rw [List.getElem?_concat_length] at e
      cases e
      exact ⟨p, by unfold muAdd; rw [if_pos rfl], gp, hx⟩
    · have hlt : n < st.length := by
        have := (List.getElem?_eq_some_iff.mp e).1
        rw [List.length_append, List.length_singleton] at this
        omega
      rw [List.getElem?_append_left hlt] at e
      obtain ⟨a, h1, h2, h3⟩ := w.obj n y e
      have ne : a ≠ p := fun z => np n (z ▸ h1)
      exact ⟨a, sm _ _ h1, h2, h3.mono (fun _ _ h => h) sm fun v hv => by rw [upd_ne ne]; exact hv⟩
  · unfold muAdd at e1 e2
    by_cases h1 : n = st.length <;> by_cases h2 : m = st.length
    · rw [h1, h2]
    · rw [if_pos h1] at e1; rw [if_neg h2] at e2; cases e1; exact absurd e2 (np m)
    · rw [if_neg h1] at e1; rw [if_pos h2] at e2; cases e2; exact absurd e1 (np n)
    · rw [if_neg h1] at e1; rw [if_neg h2] at e2; exact w.inj n m a e1 e2
  · unfold muAdd at e
    rw [List.length_append, List.length_singleton]
    by_cases h1 : n = st.length
    · omega
    · rw [if_neg h1] at e
      have := w.dom n a e
      omega
theorem Stp.adopt (s : Stp H1 G1 μ1 H G μ) (w : Wd wW K H G μ st) {p : Addr} {o : HO} (h0 : H1 p = none) : Stp H1 G1 μ1 (upd H p o) G (muAdd μ st.length p) where
  g := s.g
  m := fun n a h => by
    have h' := s.m n a h
    have := w.dom n a h'
    unfold muAdd; rw [if_neg (by omega)]; exact h'
  fr := fun b u e n => by rw [upd_ne (ne_of_none e h0)]; exact s.fr b u e n
  th := fun b u e => by rw [upd_ne (ne_of_none e h0)]; exact s.th b u e
  ng := s.ng
  nm := fun n a e q => by
    unfold muAdd at q
    by_cases h1 : n = st.length
    · rw [if_pos h1] at q; cases q; exact h0
    · rw [if_neg h1] at q; exact s.nm n a e q
end
/-- the way through a bind from a later state on; what is wanted is told from the first one on -/
theorem Post.later {α β γ δ : Type} {K : PySem.W.Frag} {mg : Str → Option Value} {H G H1 G1 : Hp} {μ μ1 : Mu} {R : RR β α} {R2 : RR δ γ} {m : M γ} {f : γ → M α} {st : Sto} {Q : β → Hp → Prop} {Q2 : δ → Hp → Prop} (p : Post wW K mg E R H G μ (m.bind f st) Q) (s : Stp H G μ H1 G1 μ1)
    (h : ∀ a st' v H' G' μ', Wd wW K H' G' μ' st' → Stp H1 G1 μ1 H' G' μ' → R2.r H1 H' G' μ' v a → Post wW K mg E R H G μ (f a st') Q → Q2 v H') : Post wW K mg E R2 H1 G1 μ1 (m st) Q2 := by
  unfold M.bind at p
  cases e : m st with
  | ok a st' => rw [e] at p; exact fun v H' G' μ' w t q => h a st' v H' G' μ' w t q p
  | err x st' => rw [e] at p; exact fun c dd H' G' μ' w t q => p c dd H' G' μ' w (s.trans t) q
  | bad => rw [e] at p; exact p
theorem zip_keys : ∀ (ks : List Str) (vs : List V), (ks.map V.str).zip vs = ((ks.map Sum.inr).zip vs).map fun q => (kV q.1, q.2)
  | [], _ => by simp
  | _ :: _, [] => by simp
  | k :: ks, v :: vs => by
    have := zip_keys ks vs
    simp only [List.map_cons, List.zip_cons_cons, this]
    rfl
theorem je_dict {ks : List Str} {fs : List (En → M D)} {kes : List (Option Expr)} {es : List Expr} (h : JP X E H0 pos ks fs kes es) (h0 : kes ≠ [] := by simp) (h15 : fs.length ≤ 15 := by decide) : JE X E H0 (eDict ks fs) (.Dict kes es pos) := by
  obtain ⟨l1, l2, l3, l4⟩ := h.len
  refine PE.imp (pe_disp h.pps l4 (l2.trans l3.symm) h0 (by rw [l2]; exact h15)) fun σ H Q ⟨G, μ, st, ρ, w, er, q⟩ p hp => ?_
  have np : ∀ n, μ n ≠ some p := fun k e => by
    obtain ⟨b, h1, _, h3⟩ := w.obj k _ (List.getElem?_eq_getElem (w.dom k p e))
    rw [e] at h1; cases h1
    obtain ⟨u, hu⟩ := h3.there
    rw [hp] at hu; cases hu
  have gp : G p = none := none_before w.imm.th hp
  obtain ⟨w0, s0⟩ := w.lay (o := .dK []) hp
  refine se_pairs fs ks σ _ (fun vs H2 => H2 p = some (.dK []) ∧ Q (.ref p) (upd H2 p (.dK (mergeK [] ((ks.map Sum.inr).zip vs))))) _ l1 ⟨G, μ, st, ρ, w0, er.step s0, Post.later q s0 fun ds st2 vs H2 G2 μ2 w2 s2 r2 q2 => ?_⟩ fun vs H2 ⟨hH, hq⟩ => ?_
  · have hH : H2 p = some (.dK []) := s2.fr p _ upd_same np
    have g2 : G2 p = none := by
      cases e : G2 p with
      | none => rfl
      | some o => have := s2.ng p gp (by rw [e]; simp); rw [upd_same] at this; cases this
    have n2 : ∀ n, μ2 n ≠ some p := fun n e => by
      cases e' : μ n with
      | some b => have := s2.m n b e'; rw [e] at this; cases this; exact np n e'
      | none => have := s2.nm n p e' e; rw [upd_same] at this; cases this
    have kr : KR X.K G2 (muAdd μ2 st2.length p) (mergeK [] ((ks.map Sum.inr).zip vs)) (putAll [] ((ks.map Sum.inr).zip ds)) := KR.all ks (r2.mono (fun _ _ h => h) fun n a h => by
      have := w2.dom n a h
      unfold muAdd; rw [if_neg (by omega)]; exact h) .nil
    exact ⟨hH, q2 _ _ _ _ (w2.adopt g2 n2 (kr.or upd_same)) ((s0.trans s2).adopt w2 hp) (.ref (by unfold muAdd; rw [if_pos rfl]))⟩
  · refine ⟨hH, (ks.map Sum.inr).zip vs, zip_keys ks vs, ?_, hq⟩
    rw [List.length_zip, List.length_map]
    omega
end
end PL

set_option linter.all false
set_option maxRecDepth 100000
set_option maxHeartbeats 6000000
/-! PL12: set(xs) of a list of ints, sorted. -/
namespace PL
section
open PySem PySem.Spec PyProof.Rows L2
variable {wW : World}
variable {prog : Program} {w : World} {A : Around} {E : Value → Shared → Prop} {s : Shared}
theorem set_of_ints {l : Addr} {zs : Array Value} (ks : List Int) {Q : Value → Shared → Prop} (hA : A.handled = none) (hL : s.heap.IsList l zs) (hz : IntsAre zs.toList ks) (bd : ks.length + 1 < scanBound)
    (fin : ∀ (hp : Heap) (tk c0 : Nat), SetR w hp s.heap.objs.size (fun j => decide (j ∈ ks)) c0 → c0 ≤ ks.length → (∀ x1 o, s.heap.get? x1 = some o → hp.get? x1 = some o) → Q (.ref s.heap.objs.size) { s with heap := hp, toks := tk }) :
    wpAny (model prog w) A (call (.type "set") [.ref l]) Q E s := by
  have sz0 : zs.size = ks.length := by
    have q := IntsAre.length hz
    rw [Array.length_toList] at q
    exact q
  obtain ⟨c0, tl, m0⟩ := F.called_set.mro
  have m1 := F.called_set.made
  have m2 := F.called_set.sub
  refine wpAny_call (codeAny_of_tree ?_)
  show wpAny _ _ (callAny (.type "set") _) _ _ _
  refine wpAny_pure ⟨Code.quiet_builtin _ (by decide +kernel), codeAny_builtin F.entry_type_call ?_⟩
  rw [Around.under_plain (weight_type_call_type "set" [.ref l] []) rfl]
  have m3 := F.called_set.notType
  have m4 := F.called_set.canCreate
  have m5 := F.typeCall_set_1 (.ref l)
  repeat (any_goals (first | assumption | wp_step))

  refine codeAny_mono (code_set_led1 (.ref l) (E := E) (Q₁ := fun ob s1 => ob = .ref s.heap.objs.size ∧ s1 = { s with heap := s.heap.push { cls := .type "set", dict := none, data := .set #[] 0 (.fresh 0 0 (!w.params.followText "set-order")) } }) ⟨rfl, rfl⟩) fun r s1 hr => ?_
  cases r with
  | error e => exact hr
  | ok fl =>
    cases fl with
    | ret ob =>
      obtain ⟨rfl, rfl⟩ := hr
      have gS : (s.heap.push { cls := .type "set", dict := none, data := .set #[] 0 (.fresh 0 0 (!w.params.followText "set-order")) }).get? s.heap.objs.size = some { cls := .type "set", dict := none, data := .set #[] 0 (.fresh 0 0 (!w.params.followText "set-order")) } := Heap.get?_push_size _ rfl
      have tS : Shared.TypeIs { s with heap := s.heap.push { cls := .type "set", dict := none, data := .set #[] 0 (.fresh 0 0 (!w.params.followText "set-order")) } } (.ref s.heap.objs.size) "set" := ⟨_, gS, rfl⟩
      have m6 := F.called_set.init.lookup
      have m7 := F.called_set.init.bind (.ref s.heap.objs.size)
      repeat (any_goals (first | assumption | wp_step))

      refine codeAny_mono (codeAny_call_builtin (R := wants (fun r s2 => r = .none ∧ ∃ hp tk c0, s2 = { s with heap := hp, toks := tk } ∧ SetR w hp s.heap.objs.size (fun j => decide (j ∈ ks)) c0 ∧ c0 ≤ ks.length ∧
          (∀ x1 o, s.heap.get? x1 = some o → hp.get? x1 = some o)) E) F.called_set.init.plain F.entry_set_init (check_set_init_1 tS ?_)) fun r2 s2 hr2 => ?_
      · obtain ⟨o1, go, gc, n1, gd⟩ := hL
        obtain ⟨oc, od, oa, os1⟩ := o1
        simp only at gc gd
        subst gc; subst gd
        have go2 : (s.heap.push { cls := .type "set", dict := none, data := .set #[] 0 (.fresh 0 0 (!w.params.followText "set-order")) }).get? l = some { cls := .type "list", dict := od, data := .seq zs n1, slots := os1 } := Heap.get?_push_of_some _ go
        have m8 := F.sub_list_set
        have m9 := F.sub_list_frozenset
        have mA : (Value.type "list" == Value.type "dict") = false := by decide
        have gl1 : (s.heap.push { cls := .type "set", dict := none, data := .set #[] 0 (.fresh 0 0 (!w.params.followText "set-order")) }).IsList l zs := ⟨_, go2, rfl, n1, rfl⟩
        unfold Builtin.«set.__init__» noKeywords Builtin.Frozenset.updateFrom
        generalize gP : pyIter = PI
        wp_walk
        subst gP

        refine wpAny_pyIter_list gl1 ?_
        refine wpAny_bind (wpAny_runValue ?_)
        have lS : l < s.heap.objs.size := Heap.lt_size go
        have mB : A.in1.in1.in1.handled = none := by simp [hA]
        have mC : (s.heap.push { cls := .type "set", dict := none, data := .set #[] 0 (.fresh 0 0 (!w.params.followText "set-order")) }).objs.size = s.heap.objs.size + 1 := Heap.size_push ..
        have mD : l ≠ (s.heap.push { cls := .type "set", dict := none, data := .set #[] 0 (.fresh 0 0 (!w.params.followText "set-order")) }).objs.size := by
          rw [Heap.size_push]; exact Nat.ne_of_lt (Nat.lt_succ_of_lt lS)
        have mE : s.heap.objs.size ∉ [(s.heap.push { cls := .type "set", dict := none, data := .set #[] 0 (.fresh 0 0 (!w.params.followText "set-order")) }).objs.size, l] := by
          rw [Heap.size_push]; simp only [List.mem_cons, List.mem_singleton, List.not_mem_nil, or_false, not_or]
          exact ⟨Nat.ne_of_lt (Nat.lt_succ_self _), Nat.ne_of_gt lS⟩
        have gv : ∀ (i : Nat) (v : Value), zs[i]? = some v → ∃ k t, ks[i]? = some k ∧ v = .int k t := fun i v hv => by
          have hi : i < ks.length := by rw [← sz0]; exact (Array.getElem?_eq_some_iff.mp hv).1
          obtain ⟨t, e⟩ := PyProof.Rows.IntsAre.int_at hz i v (by rw [Array.getElem?_toList]; exact hv)
          refine ⟨ks[i], t, List.getElem?_eq_getElem hi, ?_⟩
          rw [e, List.getD_eq_getElem?_getD, List.getElem?_eq_getElem hi] <;> rfl
        refine set_update_ints ((Walks.list mB _ l mD zs).toS) s.heap.objs.size
          mE ks sz0 bd gv (zs.size - 0) 0 _ (by omega) (Nat.zero_le _)
          ⟨⟨_, Heap.get?_push_size _ rfl, rfl, rfl⟩, (gl1.push _)⟩ ?hS0 ?hR
        case hS0 =>
          have gg : ((s.heap.push { cls := .type "set", dict := none, data := .set #[] 0 (.fresh 0 0 (!w.params.followText "set-order")) }).push { cls := .type "list_iterator", data := .fields #[.ref l, .int 0 0] }).get? s.heap.objs.size
              = some { cls := .type "set", dict := none, data := .set #[] 0 (.fresh 0 0 (!w.params.followText "set-order")) } := Heap.get?_push_of_some _ gS
          exact ⟨0, Nat.le_refl 0, setR_new_at gg⟩
        case hR =>
          intro s3 c3 mv lc2 gS2
          obtain ⟨hp, g3, d3, t3, o3⟩ := s3
          have e1 : g3 = s.gens := mv.gens
          have e2 : d3 = s.drawn := mv.drawn
          have e3 : o3 = s.os := mv.os
          subst e1; subst e2; subst e3
          show wpAny _ _ _ _ _ _
          refine wpAny_pure ?_
          show wpAny _ _ (ret Value.none) _ _ _
          rw [sz0] at lc2
          refine wpAny_pure ⟨rfl, hp, t3, c3, rfl, gS2, lc2, fun x1 o e => ?_⟩
          have b0 : x1 < s.heap.objs.size := Heap.lt_size e
          have b1 : x1 ≠ s.heap.objs.size := Nat.ne_of_lt b0
          have b2 : x1 ≠ (s.heap.push { cls := .type "set", dict := none, data := .set #[] 0 (.fresh 0 0 (!w.params.followText "set-order")) }).objs.size := by
            rw [Heap.size_push]; exact Nat.ne_of_lt (Nat.lt_succ_of_lt b0)
          exact mv.heap x1 o (by simp only [List.mem_cons, List.mem_singleton, List.not_mem_nil, or_false, not_or]; exact ⟨b1, b2⟩) (Heap.get?_push_of_some _ (Heap.get?_push_of_some _ e))

      · cases r2 with
        | error e => exact hr2
        | ok fl2 =>
          cases fl2 with
          | ret r =>
            obtain ⟨rfl, hp, tk, c3, rfl, gS2, lc2, kp2⟩ := hr2
            repeat (any_goals (first | assumption | wp_step))
            exact fin _ _ _ gS2 lc2 kp2
          | _ => exact hr2.elim
    | _ => exact hr.elim
end
end PL

set_option linter.all false
set_option maxRecDepth 100000
set_option maxHeartbeats 4000000
/-! PL13: sorted of ints, of texts, of a set of ints. -/
namespace PL
open PySem PySem.Spec L2
variable {wW : World}
def intsD : List D → Option (List Int)
  | [] => some []
  | .int x :: ds => (intsD ds).map (x :: ·)
  | _ => none
theorem ints_rep {K : PySem.W.Frag} {G : Hp} {μ : Mu} : ∀ {vs : List V} {ds : List D} {xs : List Int}, RepL K G μ vs ds → intsD ds = some xs → vs = xs.map V.int
  | _, [], _, .nil, h => by unfold intsD at h; cases h; rfl
  | _, _ :: ds, _, .cons (.int b) r, h => by
    unfold intsD at h
    cases e : intsD ds with
    | none => rw [e] at h; cases h
    | some bs => rw [e] at h; cases h; rw [ints_rep r e]; rfl
  | _, _ :: _, _, .cons .non _, h => by unfold intsD at h; cases h
  | _, _ :: _, _, .cons (.str _) _, h => by unfold intsD at h; cases h
  | _, _ :: _, _, .cons (.bl _) _, h => by unfold intsD at h; cases h
  | _, _ :: _, _, .cons (.tup _ _) _, h => by unfold intsD at h; cases h
  | _, _ :: _, _, .cons (.lst _ _) _, h => by unfold intsD at h; cases h
  | _, _ :: _, _, .cons (.frz _ _) _, h => by unfold intsD at h; cases h
  | _, _ :: _, _, .cons (.ref _) _, h => by unfold intsD at h; cases h
theorem rep_ints {K : PySem.W.Frag} {G : Hp} {μ : Mu} : ∀ (xs : List Int), RepL K G μ (xs.map V.int) (xs.map D.int)
  | [] => .nil
  | x :: xs => .cons (.int x) (rep_ints xs)
theorem intsD_len : ∀ {ds : List D} {xs : List Int}, intsD ds = some xs → xs.length = ds.length
  | [], _, h => by unfold intsD at h; cases h; rfl
  | d :: ds, xs, h => by
    cases d <;> unfold intsD at h <;> try cases h
    cases e : intsD ds with
    | none => rw [e] at h; cases h
    | some bs => rw [e] at h; cases h; rw [List.length_cons, List.length_cons, intsD_len e]
theorem strsD_len : ∀ {ds : List D} {xs : List Str}, strsD ds = some xs → xs.length = ds.length
  | [], _, h => by unfold strsD at h; cases h; rfl
  | d :: ds, xs, h => by
    cases d <;> unfold strsD at h <;> try cases h
    cases e : strsD ds with
    | none => rw [e] at h; cases h
    | some bs => rw [e] at h; cases h; rw [List.length_cons, List.length_cons, strsD_len e]
/-! ### orders -/
def leS (a b : Str) : Bool := !ltCps b.cps.toList a.cps.toList
theorem leS_iff (a b : Str) : leS a b = true ↔ a.cps.toList ≤ b.cps.toList := by
  unfold leS
  rw [PyProof.Rows.ltCps_eq]
  simp [List.not_lt]
theorem leS_trans (a b c : Str) (h1 : leS a b = true) (h2 : leS b c = true) : leS a c = true := by
  rw [leS_iff] at *
  exact List.le_trans h1 h2
theorem leS_total (a b : Str) : (leS a b || leS b a) = true := by
  rw [Bool.or_eq_true, leS_iff, leS_iff]
  exact List.le_total _ _
theorem leS_anti {a b : Str} (h1 : leS a b = true) (h2 : leS b a = true) : a = b := by
  rw [leS_iff] at *
  have e : a.cps.toList = b.cps.toList := List.le_antisymm h1 h2
  cases a; cases b
  exact congrArg Str.mk (Array.toList_inj.mp e)
def sortI (ns : List Int) : List Int := ns.mergeSort fun a b => decide (a ≤ b)
def sortS (xs : List Str) : List Str := xs.mergeSort leS
theorem sortI_eq {ns ns' : List Int} (p : ns'.Perm ns) (h : ns'.Pairwise (· ≤ ·)) : ns' = sortI ns := by
  have hp : (sortI ns).Pairwise (· ≤ ·) := (List.pairwise_mergeSort (le := fun a b : Int => decide (a ≤ b)) (fun a b c h1 h2 => by simp at *; omega) (fun a b => by simp; omega) ns).imp fun h => of_decide_eq_true h
  exact List.Perm.eq_of_pairwise (fun a b _ _ h1 h2 => Int.le_antisymm h1 h2) h hp (p.trans (List.mergeSort_perm ns _).symm)
theorem pairS : ∀ {l : List Str}, PyProof.Rows.sortedS l = true → l.Pairwise fun a b => leS a b = true
  | [], _ => .nil
  | [x], _ => List.pairwise_singleton _ _
  | x :: y :: r, h => by
    have h' : (leS x y && PyProof.Rows.sortedS (y :: r)) = true := h
    rw [Bool.and_eq_true] at h'
    have ih := pairS h'.2
    refine .cons (fun z hz => ?_) ih
    rcases List.mem_cons.mp hz with e | e
    · rw [e]; exact h'.1
    · exact leS_trans _ _ _ h'.1 ((List.pairwise_cons.mp ih).1 z e)
theorem sortS_eq {xs ys : List Str} (p : ys.Perm xs) (h : PyProof.Rows.sortedS ys = true) : ys = sortS xs :=
  List.Perm.eq_of_pairwise (le := fun a b => leS a b = true) (fun a b _ _ h1 h2 => leS_anti h1 h2) (pairS h) (List.pairwise_mergeSort leS_trans leS_total xs) (p.trans (List.mergeSort_perm xs _).symm)
/-- into a row that rises strictly -/
def insU (x : Int) : List Int → List Int
  | [] => [x]
  | y :: l => if x < y then x :: y :: l else if x = y then y :: l else y :: insU x l
def uniqI (ns : List Int) : List Int := ns.foldr insU []
theorem mem_insU (x k : Int) : ∀ l : List Int, k ∈ insU x l ↔ k = x ∨ k ∈ l
  | [] => by simp [insU]
  | y :: l => by
    unfold insU
    split
    · simp
    · split
      · rename_i h; subst h; simp
      · rw [List.mem_cons, mem_insU x k l, List.mem_cons]
        constructor
        · rintro (h | h | h)
          · exact .inr (.inl h)
          · exact .inl h
          · exact .inr (.inr h)
        · rintro (h | h | h)
          · exact .inr (.inl h)
          · exact .inl h
          · exact .inr (.inr h)
theorem pair_insU (x : Int) : ∀ {l : List Int}, l.Pairwise (· < ·) → (insU x l).Pairwise (· < ·)
  | [], _ => List.pairwise_singleton _ _
  | y :: l, h => by
    obtain ⟨h1, h2⟩ := List.pairwise_cons.mp h
    unfold insU
    split
    · rename_i hx
      refine .cons (fun z hz => ?_) h
      rcases List.mem_cons.mp hz with e | e
      · omega
      · have := h1 z e; omega
    · split
      · exact h
      · rename_i n1 n2
        refine .cons (fun z hz => ?_) (pair_insU x h2)
        rcases (mem_insU x z l).mp hz with e | e
        · omega
        · exact h1 z e
theorem mem_uniqI (k : Int) : ∀ ns : List Int, k ∈ uniqI ns ↔ k ∈ ns
  | [] => by simp [uniqI]
  | n :: ns => by
    show k ∈ insU n (uniqI ns) ↔ _
    rw [mem_insU, mem_uniqI k ns, List.mem_cons]
theorem pair_uniqI : ∀ ns : List Int, (uniqI ns).Pairwise (· < ·)
  | [] => .nil
  | n :: ns => pair_insU n (pair_uniqI ns)
theorem strict_eq {l m : List Int} (h1 : l.Pairwise (· < ·)) (h2 : m.Pairwise (· < ·)) (h : ∀ k, k ∈ l ↔ k ∈ m) : l = m := by
  have nd : ∀ {l : List Int}, l.Pairwise (· < ·) → l.Nodup := fun h => h.imp fun h e => by omega
  exact List.Perm.eq_of_pairwise (le := fun a b : Int => a < b) (fun a b _ _ h1 h2 => by omega) h1 h2 ((List.perm_ext_iff_of_nodup (nd h1) (nd h2)).mpr h)
/-! ### sorted -/
def sortedM (d : D) : M D := match d with
  | .lst ds => guardM (decide (ds.length < 64)) (match intsD ds with
    | some ns => M.pure (.lst ((sortI ns).map D.int))
    | none => (opt (strsD ds)).bind fun xs => M.pure (.lst ((sortS xs).map D.str)))
  | _ => M.bad
def ssetM (d : D) : M D := match d with
  | .lst ds => (opt (intsD ds)).bind fun ns => guardM (decide (ds.length < 64)) (M.pure (.lst ((uniqI ns).map D.int)))
  | _ => M.bad
section
variable {X : Cx} {E : XK} {H0 : Hp} {a : Expr} {f : En → M D} {pos p p2 q : Pos}
theorem call_sortedA : CallR X (.builtin "sorted") (fun xs H Q => rSorted X.K xs H Q ∨ rSortedS X.K xs H Q) := cr_sorted.or cr_sortedS
theorem c_sorted : C1J X E (fun xs H Q => rSorted X.K xs H Q ∨ rSortedS X.K xs H Q) sortedM := fun H G μ st x dx Q w rx h => by
  cases dx with
  | lst ds =>
    obtain ⟨c, h⟩ := Post.guard h
    have c := of_decide_eq_true c
    obtain ⟨l, vs, rfl, hl, r⟩ := rx.lst w.imm
    cases hi : intsD ds with
    | some ns =>
      rw [hi] at h
      have e := ints_rep r hi
      subst e
      refine .inl ⟨l, ns, rfl, .inl (.inl hl), by rw [intsD_len hi]; exact c, fun ns' p hp hs hn => ?_⟩
      have e := sortI_eq hp hs
      subst e
      obtain ⟨w2, s2⟩ := w.new (o := .lst ((sortI ns).map V.int)) hn
      exact h _ _ _ _ w2 s2 (.lst upd_same (rep_ints _))
    | none =>
      rw [hi] at h
      obtain ⟨xs, hx, h⟩ := Post.opt h
      have e := strs_rep r hx
      subst e
      refine .inr ⟨l, xs, rfl, .inl (.inl hl), by rw [strsD_len hx]; exact c, fun ys p hp hs hn => ?_⟩
      have e := sortS_eq hp hs
      subst e
      obtain ⟨w2, s2⟩ := w.new (o := .lst ((sortS xs).map V.str)) hn
      exact h _ _ _ _ w2 s2 (.lst upd_same (rep_strs _))
  | _ => exact h.elim
def rSetI (K : PySem.W.Frag) (w : World) : List V → Hp → VK → Prop := fun xs H Q => ∃ (p : Addr) (ns : List Int), xs = [V.ref p] ∧ SqL K H p (ns.map V.int) ∧ ns.length < 64 ∧ ∀ (l : Addr) (c : Nat), H l = none → c ≤ ns.length → Q (.ref l) (upd H l (SetO w l (fun j => decide (j ∈ ns)) c))
theorem cr_setI (hc : X.calm = true) : CallR X (.type "set") (rSetI X.K X.w) := by
  intro pins s σ H vs us Q I r h
  obtain ⟨l, ns, rfl, hs, h64, k⟩ := h
  obtain ⟨its, rv, hl, _⟩ := I.list hs
  rw [Vals.ref1 r]
  refine set_of_ints ns (I.ok.hd hc) hl.isList (by simpa using rv.ints) (by unfold scanBound; omega) fun h' tk c R hcn kp => ?_
  exact ⟨.ref _, upd H s.heap.objs.size (SetO X.w s.heap.objs.size (fun j => decide (j ∈ ns)) c), I.laid (t' := tk) kp (Nat.le_refl _) (setO_new R), rfl, k _ c (I.hok.fresh (Nat.le_refl _)) hcn⟩
theorem je_sset (hc : X.calm = true) (hg : Gl X "sorted") (hm : X.mg "sorted" = none) (hg2 : Gl X "set") (hm2 : X.mg "set" = none) (ha : JB X E H0 f a)
    (hs : starEach [a] X.env = (false, eval a X.env) :: starEach [] X.env := by rfl) (hs2 : starEach [.Call (.Name "set" p2) [a] [] q] X.env = (false, eval (.Call (.Name "set" p2) [a] [] q) X.env) :: starEach [] X.env := by rfl) :
    JE X E H0 (e1 ssetM f) (.Call (.Name "sorted" p) [.Call (.Name "set" p2) [a] [] q] [] pos) := by
  refine PE.imp (pe_callB (cr_sortedSet hc) hg hm (by decide +kernel) (pa_one (pe_callTy (cr_setI hc) hg2 hm2 (by decide +kernel) (pa_one ha hs) (by decide) (by decide) hs rfl) hs2) (by decide) (by decide) hs2 rfl) fun σ H Q ⟨G, μ, st, ρ, w, er, k⟩ => ?_
  refine ⟨G, μ, st, ρ, w, er, Post.bind k fun d st1 x H1 G1 μ1 w1 s1 r1 k1 => ?_⟩
  cases d with
  | lst ds =>
    obtain ⟨ns, hi, k1⟩ := Post.opt k1
    obtain ⟨c, k1⟩ := Post.guard k1
    have c := of_decide_eq_true c
    obtain ⟨l, vs, rfl, hl, r⟩ := r1.weak.lst w1.imm
    have e := ints_rep r hi
    subst e
    have hlen : ns.length < 64 := by rw [intsD_len hi]; exact c
    refine ⟨l, ns, rfl, .inl (.inl hl), hlen, fun t n ht hn => ?_⟩
    obtain ⟨w2, s2⟩ := w1.lay (o := SetO X.w t (fun j => decide (j ∈ ns)) n) ht
    refine ⟨t, _, n, rfl, upd_same, by omega, fun ns' p2 hp hmem hlen' hn2 => ?_⟩
    have e : ns' = uniqI ns := strict_eq hp (pair_uniqI ns) fun k => by rw [mem_uniqI, hmem]; simp
    subst e
    obtain ⟨w3, s3⟩ := w2.new (o := .lst ((uniqI ns).map V.int)) hn2
    exact k1 _ _ _ _ w3 (s2.trans s3) (.lst upd_same (rep_ints _))
  | _ => exact k1.elim
end
end PL

set_option linter.all false
set_option maxRecDepth 100000
set_option maxHeartbeats 4000000
/-! PL14: lists of the store: made, looked at, appended to, written at a place; own lists written at a place; defs with defaults. -/
namespace PL
open PySem PySem.Spec L2
variable {wW : World}
/-- the list of the store -/
def lstAt (n : Nat) : M (List D) := fun st => match st[n]? with
  | some (.lst ds) => .ok ds st
  | _ => .bad
/-- a list of the store as it stands now -/
def deref (d : D) : M D := match d with
  | .ref n => (lstAt n).bind fun ds => M.pure (.lst ds)
  | d => M.pure d
def dr1 (p : D → M D) (d : D) : M D := (deref d).bind p
def drL (p : D → D → M D) (x y : D) : M D := (deref x).bind fun x => p x y
def drR (p : D → D → M D) (x y : D) : M D := (deref y).bind fun y => p x y
section
variable {X : Cx} {E : XK} {H0 : Hp} {e a b c o i : Expr} {f g h : En → M D} {fl : En → M (List D)} {pos p p0 : Pos} {Φ : Ent} {x : Str} {ga : En → M (List D)}
theorem Post.lstAt {α β : Type} {K : PySem.W.Frag} {mg : Str → Option Value} {R : RR β α} {H G : Hp} {μ : Mu} {n : Nat} {k : List D → M α} {st : Sto} {Q : β → Hp → Prop} (q : Post wW K mg E R H G μ ((PL.lstAt n).bind k st) Q) : ∃ ds, st[n]? = some (.lst ds) ∧ Post wW K mg E R H G μ (k ds st) Q := by
  unfold M.bind PL.lstAt at q
  cases e : st[n]? with
  | none => rw [e] at q; exact q.elim
  | some o =>
    rw [e] at q
    cases o with
    | lst ds => exact ⟨ds, rfl, q⟩
    | dict _ => exact q.elim
    | ins _ _ => exact q.elim
    | tab _ _ => exact q.elim
    | nd _ => exact q.elim
theorem Rep.lstAt {K : PySem.W.Frag} {H G : Hp} {μ : Mu} {st : Sto} {v : V} {n : Nat} {ds : List D} (r : Rep K G μ v (.ref n)) (w : Wd wW K H G μ st) (hs : st[n]? = some (.lst ds)) : ∃ l vs, v = .ref l ∧ μ n = some l ∧ H l = some (.lst vs) ∧ RepL K G μ vs ds := by
  cases r with
  | ref hm =>
    obtain ⟨l, h1, h2, h3⟩ := w.obj n _ hs
    rw [hm] at h1; cases h1
    obtain ⟨vs, h4, h5⟩ := h3
    exact ⟨_, vs, rfl, hm, h4, h5⟩
theorem BRep.deref {α β : Type} {K : PySem.W.Frag} {mg : Str → Option Value} {R : RR β α} {H G : Hp} {μ : Mu} {st : Sto} {v : V} {d : D} {k : D → M α} {Q : β → Hp → Prop} (r : BRep K H G μ v d) (w : Wd wW K H G μ st) (q : Post wW K mg E R H G μ ((PL.deref d).bind k st) Q) : ∃ d', BRep K H G μ v d' ∧ Post wW K mg E R H G μ (k d' st) Q := by
  cases d with
  | ref n =>
    have q' : Post wW K mg E R H G μ (((PL.lstAt n).bind fun ds => M.pure (.lst ds)).bind k st) Q := q
    rw [M.bind_assoc] at q'
    obtain ⟨ds, hs, q2⟩ := Post.lstAt q'
    rcases r with r | ⟨_, _, _, _, z, _⟩
    · obtain ⟨l, vs, rfl, _, h4, h5⟩ := r.lstAt w hs
      exact ⟨.lst ds, .inr ⟨l, vs, ds, rfl, rfl, h4, h5, trivial⟩, q2⟩
    · cases z
  | _ => exact ⟨_, r, q⟩
theorem dr_c {r : List V → Hp → VK → Prop} {p : D → M D} (hp : C1J X E r p) : C1J X E r (dr1 p) := fun H G μ st x dx Q w rx h => by
  obtain ⟨d', r', h'⟩ := rx.deref w h
  exact hp H G μ st x d' Q w r' h'
theorem dr_l {r : R2} {p : D → D → M D} (hp : OpJ X E r p) : OpJ X E r (drL p) := fun H G μ st x y dx dy Q w rx ry h => by
  obtain ⟨d', r', h'⟩ := rx.deref w h
  exact hp H G μ st x y d' dy Q w r' ry h'
theorem dr_r {r : R2} {p : D → D → M D} (hp : OpJ X E r p) : OpJ X E r (drR p) := fun H G μ st x y dx dy Q w rx ry h => by
  obtain ⟨d', r', h'⟩ := ry.deref w h
  exact hp H G μ st x y dx d' Q w rx r' h'
/-- a list that is made comes into the store -/
def eNew (fl : En → M (List D)) : En → M D := fun ρ => (fl ρ).bind fun ds => newOb (.lst ds)
theorem JF.new (hf : JF X E H0 fl e) : JE X E H0 (eNew fl) e := PE.imp hf fun σ H Q ⟨G, μ, st, ρ, w, er, q⟩ =>
  ⟨G, μ, st, ρ, w, er, Post.raw q fun ds st1 v H1 G1 μ1 w1 s1 r1 q1 => by
    obtain ⟨a, vs, rfl, h1, h2, h3, h4, h5⟩ := r1
    have hx : OR X.w X.K G1 (muAdd μ1 st1.length a) (upd H1 a (.lst vs)) a (.lst ds) := ⟨vs, upd_same, h2.mono (fun _ _ h => h) fun n b h => by
      have := w1.dom n b h
      unfold muAdd; rw [if_neg (by omega)]; exact h⟩
    have eH : upd H1 a (.lst vs) = H1 := by
      funext b
      by_cases hb : b = a
      · subst hb; rw [upd_same, h1]
      · rw [upd_ne hb]
    have w2 := w1.adopt (o := .lst vs) h3 h4 hx
    have s2 := s1.adopt (o := .lst vs) w1 h5
    rw [eH] at w2 s2
    exact q1 _ _ _ _ w2 s2 (.ref (by unfold muAdd; rw [if_pos rfl]))⟩
/-- the store's list in slot i -/
def refS (i : Nat) (ρ : En) : Option Nat := match ρ[i]? with
  | some (.val (.ref n)) => some n
  | _ => none
/-- what is written into a list of the store -/
def sLput (i : Nat) (f : En → M D) (k : List D → D → M (List D)) : En → M (Fl × En) := fun ρ => (opt (refS i ρ)).bind fun n => (lstAt n).bind fun _ => (f ρ).bind fun d => (lstAt n).bind fun ds => (k ds d).bind fun es => (setAt n (.lst es)).bind fun _ => M.pure (.nx, ρ)
theorem refS_eq {i n : Nat} {ρ : En} (h : refS i ρ = some n) : ρ[i]? = some (.val (.ref n)) := by
  unfold refS at h
  cases e : ρ[i]? with
  | none => rw [e] at h; cases h
  | some s =>
    rw [e] at h
    cases s with
    | no => cases h
    | own _ => cases h
    | val d => cases d <;> cases h; rfl
def appK (ds : List D) (d : D) : M (List D) := (line (ds.length + 1)).bind fun _ => M.pure (ds ++ [d])
theorem PostS.lstAt {n : Nat} {k : List D → M (Fl × En)} {st : Sto} {Dn : Ends} (q : PostS X E Φ Dn ((PL.lstAt n).bind k st)) : ∃ ds, st[n]? = some (.lst ds) ∧ PostS X E Φ Dn (k ds st) := by
  unfold M.bind PL.lstAt at q
  cases e : st[n]? with
  | none => rw [e] at q; exact q.elim
  | some o =>
    rw [e] at q
    cases o with
    | lst ds => exact ⟨ds, rfl, q⟩
    | dict _ => exact q.elim
    | ins _ _ => exact q.elim
    | tab _ _ => exact q.elim
    | nd _ => exact q.elim
theorem lput_end {Dn : Ends} {ρ : En} {σ : L2.St} {H G : Hp} {μ : Mu} {st : Sto} {n : Nat} {ds es : List D} {l : Addr} (w : Wd X.w X.K H G μ st) (er : ER X.K H G μ Φ.H ρ σ) (s : Stp Φ.H Φ.G Φ.μ H G μ) (hs : st[n]? = some (.lst ds)) (hm : μ n = some l)
    (q : PostS X E Φ Dn ((setAt n (.lst es)).bind (fun _ => M.pure (.nx, ρ)) st)) (ws : List V) (r : RepL X.K G μ ws es) : Dn.nx σ (upd H l (.lst ws)) := by
  have q' : PostS X E Φ Dn (.ok (.nx, ρ) (st.set n (.lst es))) := q
  obtain ⟨w2, s2⟩ := w.write (x := .lst es) (o := .lst ws) hs hm ⟨ws, upd_same, r⟩
  exact q' _ _ _ _ w2 (er.step s2) (s.trans s2)
theorem js_appR {i : Nat} {p1 p2 pc ps : Pos} (hN : X.N[i]? = some x) (hv : Vis X.env.scope x) (he : JE X E Φ.H f e) (hd : (x == ("__debug__" : Str)) = false := by decide) (hcd : (x == ("__classdict__" : Str)) = false := by decide)
    (hb : ∀ {to : TE} {t : TA}, PE X (.Name x p1) to → PA X [e] t → PE X (.Call (.Attribute (.Name x p1) "append" p2) [e] [] pc) (tBM X.K "list" rAppend to t)) (ha : starEach [e] X.env = (false, eval e X.env) :: starEach [] X.env := by rfl)
    (hs : swapsWith (.Call (.Attribute (.Name x p1) "append" p2) [e] [] pc) none ps.line X.env = pure false := by rfl) : JS X E Φ (sLput i f appK) (.Expr (.Call (.Attribute (.Name x p1) "append" p2) [e] [] pc) ps) := by
  refine PS.imp (ps_expr (hb (pe_var hN hv hd hcd) (pa_one he ha)) hs) fun Dn σ H ⟨G, μ, st, ρ, w, er, s, q⟩ => ?_
  unfold sLput at q
  obtain ⟨n, hi, q⟩ := PostS.opt q
  obtain ⟨ds0, hs0, q⟩ := q.lstAt
  obtain ⟨v, hv1, rv⟩ := er.val i _ (refS_eq hi)
  obtain ⟨l, vs, rfl, hm, hl, _⟩ := rv.lstAt w hs0
  refine ⟨_, hv1, .inl ⟨rfl, _, .inl (.inl hl)⟩, G, μ, st, ρ, w, er, q.bind s fun d st1 v H1 G1 μ1 w1 s1 t1 r1 q1 => ?_⟩
  obtain ⟨ds, hs, q1⟩ := q1.lstAt
  unfold appK at q1
  rw [M.bind_assoc] at q1
  obtain ⟨hz, q1⟩ := q1.line
  obtain ⟨l', vs', e1, hm1, hl1, r2⟩ := (rv.mono s1.g s1.m).lstAt w1 hs
  cases e1
  exact ⟨_, vs', v, rfl, rfl, hl1, by rw [RepL.length r2]; omega, lput_end w1 (er.step s1) t1 hs hm1 q1 _ (r2.append (.cons r1 .nil))⟩
/-! ### x[i] = v -/
/-- the place of a list that is written -/
def setK (z : Int) (ds : List D) (d : D) : M (List D) := (opt (ixN ds.length z)).bind fun j => M.pure (ds.set j d)
def sLset (i : Nat) (gi f : En → M D) : En → M (Fl × En) := fun ρ => (f ρ).bind fun d => (opt (refS i ρ)).bind fun n => (gi ρ).bind fun z => (opt (match z with | .int z => some z | _ => none)).bind fun z => (lstAt n).bind fun ds => (setK z ds d).bind fun es => (setAt n (.lst es)).bind fun _ => M.pure (.nx, ρ)
def sOset (i : Nat) (gi f : En → M D) : En → M (Fl × En) := fun ρ => (f ρ).bind fun d => (opt (match ρ[i]? with | some (.own ds) => some ds | _ => none)).bind fun ds => (gi ρ).bind fun z => (opt (match z with | .int z => some z | _ => none)).bind fun z => (setK z ds d).bind fun es => put i (.own es) ρ
theorem js_lset {j : Nat} {x : Str} {p1 ps po : Pos} (hN : X.N[j]? = some x) (hv : Vis X.env.scope x) (hi : JE X E Φ.H g i) (he : JE X E Φ.H f e) (hd : (x == ("__debug__" : Str)) = false := by decide) (hcd : (x == ("__classdict__" : Str)) = false := by decide)
    (ha : ∀ v, assign (.Subscript (.Name x p1) i po) X.env v = (do
      let ov ← holding [v] (eval (.Name x p1) X.env)
      let iv ← holding [v, ov] (eval i X.env)
      standAt po
      holding [v, ov, iv] (setItem ov iv v)
      release [v, ov, iv] []) := by intro _; rfl)
    (hs : swapsWithSole [.Subscript (.Name x p1) i po] e ps.line X.env = pure false := by rfl) (hw : swappedStores [.Subscript (.Name x p1) i po] e X.env = pure none := by rfl)
    (h1 : (assignEach [.Subscript (.Name x p1) i po] X.env).map (·.2) = [assign (.Subscript (.Name x p1) i po) X.env] := by rfl) :
    JS X E Φ (sLset j g f) (.Assign [.Subscript (.Name x p1) i po] e ps) := by
  refine PS.imp (ps_asg he (pg_sub (pe_var hN hv hd hcd) hi set_list ha) hs hw h1) fun Dn σ H ⟨G, μ, st, ρ, w, er, s, q⟩ => ?_
  refine ⟨G, μ, st, ρ, w, er, q.bind s fun d st1 v H1 G1 μ1 w1 s1 t1 r1 q1 => ?_⟩
  obtain ⟨n, hj, q1⟩ := PostS.opt q1
  obtain ⟨u, hu, ru⟩ := (er.step s1).val j _ (refS_eq hj)
  refine ⟨u, hu, G1, μ1, st1, ρ, w1, er.step s1, q1.bind t1 fun dz st2 z H2 G2 μ2 w2 s2 t2 r2 q2 => ?_⟩
  obtain ⟨k, hk, q2⟩ := PostS.opt q2
  cases r2 with
  | int z =>
    cases hk
    obtain ⟨ds, hs2, q2⟩ := q2.lstAt
    unfold setK at q2
    rw [M.bind_assoc] at q2
    obtain ⟨m, hm, q2⟩ := PostS.opt q2
    obtain ⟨l, vs, rfl, hm1, hl, r3⟩ := (ru.mono s2.g s2.m).lstAt w2 hs2
    exact ⟨l, vs, _, m, rfl, rfl, hl, by rw [RepL.length r3]; exact hm, lput_end w2 ((er.step s1).step s2) t2 hs2 hm1 q2 _ (RepL.set (r1.mono s2.g s2.m) m r3)⟩
  | _ => cases hk
end
/-! ### defs with defaults -/
structure OwnD (P : Program) (w : World) (K : PySem.W.Frag) (mg : Str → Option Value) (base : Heap) (k : Nat) (x : Str) (ps : List Str) (sem : List D → M D) (dvs : List V) : Prop where
  ex : ∃ fa fd, FnOk P w K mg base (L2.CX P w) k fa fd ps (SpOf w K mg ps.length sem) ∧ mg x = some (.ref fa) ∧ PySem.W.keepIn K (.ref fa) = true ∧ ∃ ds, Vals dvs ds ∧ Binds K fd ps ds
structure FnD (K : PySem.W.Frag) (mg : Str → Option Value) (x : Str) (st : Stmt) (ps : List Str) (dvs : List V) : Prop where
  ex : ∃ fa fd, Fun K x x st fa fd ∧ mg x = some (.ref fa) ∧ ∃ ds, Vals dvs ds ∧ Binds K fd ps ds
theorem own_defD {P : Program} {w : World} {K : PySem.W.Frag} {mg : Str → Option Value} {base : Heap} {k : Nat} {x : Str} {st : Stmt} {N ps : List Str} {f : En → M (Fl × En)} {dvs : List V} (F : FnD K mg x st ps dvs) (S : FnScope N ps (defScope st))
    (body : ∀ (fa : Addr) (cdv : Value) (A : Around) (outer : List Env) (s : Shared) (H G : Hp) (μ : Mu) (E : XK), Room k (A.deeper (PyProof.Rows.envOfC x (defScope st) s.heap.objs.size fa cdv)) →
      JSs (cxOf (L2.CX P w) P w K mg base N x (defScope st) fa cdv A outer s H E) E ⟨H, G, μ⟩ f (defBody st)) :
    OwnD P w K mg base (k + 1) x ps (runB N.length f) dvs := by
  obtain ⟨fa, fd, F, m, b⟩ := F.ex
  exact ⟨fa, fd, def_ok F S (body fa), m, F.kp, b⟩
section
variable {X : Cx} {E : XK} {H0 : Hp} {e : Expr} {es : List Expr} {pos p : Pos} {x : Str} {ga : En → M (List D)}
/-- a call that leaves the last ones to their defaults -/
def eCallD (n : Nat) (dds : List D) (sem : List D → M D) (g : En → M (List D)) : En → M D := eCall n sem fun ρ => (g ρ).bind fun ds => M.pure (ds ++ dds)
theorem jcallD {k n : Nat} {ps : List Str} {sem : List D → M D} {dvs : List V} {dds : List D} (C : OwnD X.prog X.w X.K X.mg X.base k x ps sem dvs) (hr : Room k X.A) (hx : Passes (L2.CX X.prog X.w) X E) (ha : JA X E H0 ga (e :: es)) (hdd : ∀ G μ, RepL X.K G μ dvs dds) (hg : Gl X x := by rfl) (hdb : (x == ("__debug__" : Str)) = false := by decide)
    (he : starEach (e :: es) X.env = (false, eval e X.env) :: starEach es X.env := by rfl) (hpl : (backTo pos (starEach es X.env)).any (·.1) = false := by rfl) (hn : ps.length = n := by rfl) : JE X E H0 (eCallD n dds sem ga) (.Call (.Name x p) (e :: es) [] pos) := by
  subst hn
  obtain ⟨fa, fd, F, m, kp, ds, rv, b⟩ := C.ex
  refine PE.imp (pe_call F hr hg m kp b rv hx ha hdb he hpl) fun σ H Q ⟨G, μ, st, ρ, w, er, q⟩ => ?_
  have q' : Post X.w X.K X.mg E (rRep X.K) H G μ (((ga ρ).bind fun ds => if (ds ++ dds).length = ps.length then sem (ds ++ dds) else M.bad) st) Q := by
    have e : eCallD ps.length dds sem ga ρ = (ga ρ).bind fun ds => if (ds ++ dds).length = ps.length then sem (ds ++ dds) else M.bad := M.bind_assoc _ _ _
    rw [← e]; exact q
  refine ⟨G, μ, st, ρ, w, er, Post.bind q' fun ds st1 vs H1 G1 μ1 w1 s1 r1 q1 => ?_⟩
  by_cases h : (ds ++ dds).length = ps.length
  · rw [if_pos h] at q1
    exact ⟨G1, μ1, st1, ds ++ dds, w1, r1.append (hdd G1 μ1), h, q1⟩
  · rw [if_neg h] at q1
    exact q1.elim
end
end PL
namespace PL
open PySem PySem.Spec L2
variable {wW : World}
/-- nothing is promised yet -/
theorem own_zero {P : Program} {w : World} {K : PySem.W.Frag} {mg : Str → Option Value} {base : Heap} {x : Str} {st : Stmt} {ps : List Str} (k : Nat) (F : Fn0 K mg x st ps) : Own P w K mg base k x ps fun _ => M.bad := by
  obtain ⟨fa, fd, F, m, b⟩ := F.ex
  exact ⟨fa, fd, ⟨fun vs H Q E ⟨_, _, _, _, _, _, _, q⟩ => q.elim, fun A outer s H args us vs Q E hr he hb hv ⟨_, _, _, _, _, _, _, q⟩ => q.elim⟩, m, F.kp, b, Fun.lk F⟩
end PL
namespace PL
open PySem PySem.Spec L2
variable {wW : World}
/-- name = [..] on one line, the list given out at once -/
theorem js_setLc {X : Cx} {E : XK} {Φ : Ent} {it : En → M (List D)} {pt : Pt} {tt : En → M Bool} {te : En → M D} {elt tg iter : Expr} {ifs : List Expr} {scope : Scope} {own : List (Str × Nat)} {pos : Pos} {i : Nat} {y : Str} {py spos : Pos} (hc : X.calm = true) (hN : X.N.Nodup) (hy : X.N[i]? = some y) (hyl : X.env.scope.names.lookup y = some .local)
    (hsw : swapsWith (.ListComp elt [⟨tg, iter, ifs, 0⟩] scope pos) (some (.Name y py)) spos.line X.env = pure true) (hi : JI X E Φ.H tg it iter) (ok : BlkOk X.N X.env.scope scope own) (hv : ∀ i ∈ pt.slots, i ∈ own.map (·.2))
    (hg : ∀ (s : Shared) (H : Hp) (C : Addr) (cl : List (Str × Addr)) (fp : List Addr), PG (X.blk s H scope (compEnvC scope cl C X.env) fp) tg (pt.g X.K))
    (ht : ∀ (s : Shared) (H : Hp) (C : Addr) (cl : List (Str × Addr)) (fp : List Addr), JTs (X.blk s H scope (compEnvC scope cl C X.env) fp) xNo Φ.H tt ifs)
    (he : ∀ (s : Shared) (H : Hp) (C : Addr) (cl : List (Str × Addr)) (fp : List Addr), JE (X.blk s H scope (compEnvC scope cl C X.env) fp) xNo Φ.H te elt) (hs : ∀ x, foldedSetIterable iter X.env x = pure x := by intro _; rfl) :
    JS X E Φ (sSet i (eL (eLc it pt (own.map (·.2)) tt te))) (.Assign [.Name y py] (.ListComp elt [⟨tg, iter, ifs, 0⟩] scope pos) spos) := by
  refine PS.imp (ps_setLc (tt := Se X xNo Φ.H rTrue tt) (te := Se X xNo Φ.H (rRep X.K) te) hc hN hy hyl hsw hi ok hg ht he hs) fun Dn σ H ⟨G, μ, st, ρ, w, er, s, p⟩ => ?_
  have p' : PostS X E Φ Dn (((eLc it pt (own.map (·.2)) tt te ρ).bind fun ds => put i (.val (.lst ds)) ρ) st) := by
    have e : sSet i (eL (eLc it pt (own.map (·.2)) tt te)) ρ = (eLc it pt (own.map (·.2)) tt te ρ).bind fun ds => put i (.val (.lst ds)) ρ := M.bind_assoc _ _ _
    rw [← e]; exact p
  refine lc_read hv _ _ _ ⟨G, μ, st, ρ, w, er, p'.bind s fun ds st' v H' G' μ' w' s' t' r q => ?_⟩
  obtain ⟨a, vs, rfl, h1, h2, h3, h4, h5⟩ := r
  exact put_val q (w'.freeze h1 h3 h4) (er.step (s'.freeze h3 h5)) (t'.freeze h3 (none_before s.th h5)) (.lst upd_same (h2.mono (subUpd h3) fun _ _ h => h))
end PL

set_option linter.all false
set_option maxRecDepth 100000
set_option maxHeartbeats 4000000
/-! PL15: from what the top has written to the defs and constants of the layer; the law's own start. -/
namespace PL
open PySem PySem.Spec L2
variable {wW : World}
section
variable {K : PySem.W.Frag} {h : Heap} {mg : Str → Option Value}
theorem fn0_of {x : Str} {st : Stmt} {f : Addr} {oc : Value} {od an : Option Addr} {osl : Array (Option Value)} {kV doc pm cdv ct : Value} (X : K.In h) (N : h.Ns mainGlobals mg) (ps : List Str) (a : PySem.W.nsIn K mainGlobals x = some (some (.ref f)))
    (l : K.lookup f = some ⟨oc, od, .func (PySem.W.fnOf x x (defArgs st) (defBody st) (defScope st) .none kV doc pm an cdv ct), osl⟩) (c : PySem.W.codeIn K cdv x = true) (k : PySem.W.keepIn K (.ref f) = true)
    (hb : ∀ (kV doc pm : Value) (an : Option Addr) (cdv ct : Value) (us : List Value), us.length = ps.length → bindArgs (PySem.W.fnOf x x (defArgs st) (defBody st) (defScope st) .none kV doc pm an cdv ct) ⟨us, []⟩ = pure (ps.zip us)) : Fn0 K mg x st ps :=
  ⟨f, _, fun_mk l c k, PySem.W.mg_of X N a, hb _ _ _ _ _ _⟩
/-- a def whose keyword-only parameters have ints for defaults -/
theorem fnD_of {x : Str} {st : Stmt} {f Dk : Addr} {oc : Value} {od an : Option Addr} {osl : Array (Option Value)} {doc pm cdv ct : Value} (X : K.In h) (N : h.Ns mainGlobals mg) (ps : List Str) (n : Nat) (kws : List (Str × Int)) (a : PySem.W.nsIn K mainGlobals x = some (some (.ref f)))
    (l : K.lookup f = some ⟨oc, od, .func (PySem.W.fnOf x x (defArgs st) (defBody st) (defScope st) .none (.ref Dk) doc pm an cdv ct), osl⟩) (c : PySem.W.codeIn K cdv x = true) (k : PySem.W.keepIn K (.ref f) = true)
    (hk : kws ≠ []) (hn : n + kws.length = ps.length) (hkw : ∀ q ∈ kws, ∃ t, PySem.W.nsIn K Dk q.1 = some (some (.int q.2 t)))
    (hb : ∀ (D : Addr) (doc pm : Value) (an : Option Addr) (cdv ct : Value) (us ks : List Value), us.length = n → ks.length = kws.length → KwChain D ((kws.map (·.1)).zip ks) (bindArgs (PySem.W.fnOf x x (defArgs st) (defBody st) (defScope st) .none (.ref D) doc pm an cdv ct) ⟨us, []⟩) (ps.zip (us ++ ks))) :
    FnD K mg x st ps (kws.map fun q => V.int q.2) := by
  have F : FunD K x x (defArgs st) (defBody st) (defScope st) [] (kws.map fun q => (q.1, V.int q.2)) f (PySem.W.fnOf x x (defArgs st) (defBody st) (defScope st) .none (.ref Dk) doc pm an cdv ct) :=
    ⟨⟨oc, od, .none, .ref Dk, doc, pm, an, cdv, ct, osl, rfl, l, c, .inl ⟨rfl, rfl⟩, .inr ⟨Dk, rfl, fun q hq => by
      obtain ⟨r, hr, rfl⟩ := List.mem_map.mp hq
      obtain ⟨t, e⟩ := hkw r hr
      exact ⟨_, e, t, rfl⟩⟩⟩, k⟩
  have e1 : (kws.map fun q => (q.1, V.int q.2)).map (·.1) = kws.map (·.1) := by rw [List.map_map]; rfl
  have e2 : (kws.map fun q => (q.1, V.int q.2)).map (·.2) = kws.map fun q => V.int q.2 := by rw [List.map_map]; rfl
  obtain ⟨ds, r, b⟩ := F.binds0 (ps := ps) n (by simpa using hk) (by simpa using hn) fun D doc pm an cdv ct us ks h1 h2 => by
    rw [e1]; exact hb D doc pm an cdv ct us ks h1 (by simpa using h2)
  exact ⟨f, _, fun_mk l c k, PySem.W.mg_of X N a, ds, by rw [← e2]; exact r, b⟩
theorem cn_str {x y : Str} {t : Tok} (X : K.In h) (N : h.Ns mainGlobals mg) (a : PySem.W.nsIn K mainGlobals x = some (some (.str y t))) : Cn mg K x (.str y) := ⟨.str y, _, PySem.W.mg_of X N a, ⟨t, rfl⟩, fun _ _ => .str y⟩
theorem cn_int {x : Str} {y : Int} {t : Tok} (X : K.In h) (N : h.Ns mainGlobals mg) (a : PySem.W.nsIn K mainGlobals x = some (some (.int y t))) : Cn mg K x (.int y) := ⟨.int y, _, PySem.W.mg_of X N a, ⟨t, rfl⟩, fun _ _ => .int y⟩
/-- a tuple of texts -/
theorem strs_vals {ys : List Str} {its : List Value} (hh : Paired (fun (y : Str) (v : Value) => ∃ t, v = .str y t) ys its) : Vals (ys.map V.str) its := by
  induction hh with
  | nil => exact .nil
  | cons h t ih => obtain ⟨k, rfl⟩ := h; exact .cons ⟨k, rfl⟩ ih
theorem cn_tupS {x : Str} {ys : List Str} {T : Addr} {od : Option Addr} {osl : Array (Option Value)} {its : Array Value} {n : Nat} (X : K.In h) (N : h.Ns mainGlobals mg) (a : PySem.W.nsIn K mainGlobals x = some (some (.ref T))) (l : K.lookup T = some ⟨.type "tuple", od, .seq its n, osl⟩)
    (hz : its.size ≤ sizeLine) (hh : Paired (fun (y : Str) (v : Value) => ∃ t, v = .str y t) ys its.toList) : Cn mg K x (.tup (ys.map D.str)) :=
  ⟨.ref T, _, PySem.W.mg_of X N a, rfl, fun _ _ => .tup (.inr ⟨_, its, n, l, rfl, rfl, hz, strs_vals hh⟩) (rep_strs ys)⟩
/-- the law's promise -/
def spLaw (K : PySem.W.Frag) : Sp := fun vs H Q _ => ∃ (a : Addr) (ns : List Int), vs = [.ref a] ∧ SqL K H a (ns.map V.int) ∧ ns.length ≤ 63 ∧ ∀ H', Q (.bl true) H'
theorem law_end {P : Program} {w : World} {base : Heap} {k : Nat} {fa : Addr} {fd : FuncData} {x : Str} {m : List D → M D} (F : FnOk P w K mg base (L2.CX P w) k fa fd [x] (SpOf w K mg 1 m)) (hm : ∀ ns : List Int, ns.length ≤ 63 → ∃ st, m [.frz (ns.map D.int)] [] = .ok (.bl true) st) :
    FnOk P w K mg base (L2.CX P w) k fa fd [x] (spLaw K) := F.imp fun vs H Q E ⟨a, ns, e, hs, hl, q⟩ => by
  subst e
  obtain ⟨st, hst⟩ := hm ns hl
  refine ⟨H, fun _ => none, [], [.frz (ns.map D.int)], ⟨fun _ _ h => h, fun n o h => by simp at h, fun _ _ _ h => by simp at h, fun _ _ h => by simp at h⟩, .cons (.frz hs (rep_ints ns)) .nil, rfl, ?_⟩
  rw [hst]
  intro v H' G' μ' _ _ r
  cases r
  exact q H'
/-- the law's def, whatever stands below -/
theorem own_law {P : Program} {w : World} {k : Nat} {fa : Addr} {x y : Str} {st : Stmt} {m : List D → M D} (hfa : mg x = some (.ref fa)) (hm : ∀ ns : List Int, ns.length ≤ 63 → ∃ st, m [.frz (ns.map D.int)] [] = .ok (.bl true) st) (F : Fn0 K mg x st [y])
    (O : ∀ base, Own P w K mg base k x [y] m) : ∃ fd, (∀ (s : Shared) (u : Value), BindsTo s fd ⟨[u], []⟩ [(y, u)]) ∧ ∀ base : Heap, K.In base → base.Ns mainGlobals mg → FnOk P w K mg base (L2.CX P w) k fa fd [y] (spLaw K) := by
  obtain ⟨fa1, fd, F, e, b⟩ := F.ex
  rw [hfa] at e; cases e
  refine ⟨fd, fun s u => .of_eq (b [u] rfl), fun base _ _ => ?_⟩
  obtain ⟨fa2, fd', F2, e, _, b2, oc, od, sl, l⟩ := (O base).ex
  rw [hfa] at e; cases e
  obtain ⟨oc1, od1, sl1, l1⟩ := Fun.lk F
  rw [l] at l1
  have e2 : fd' = fd := by injection l1 with h; injection h with _ _ h; injection h
  subst e2
  exact law_end F2 hm
theorem no_cx {P : Program} {w : World} {H : Hp} {s : Shared} {e : Value} {s' : Shared} (h : L2.CX P w [] H s (fun _ _ _ => False) e s') : False := by
  obtain ⟨_, _, _, _, _, _, _, _, _, _, _, _, h⟩ := h
  exact h
end
end PL

set_option linter.all false
set_option maxRecDepth 100000
set_option maxHeartbeats 4000000
/-! PW1: what stands behind m, if all goes well: rules by which a printed text is walked. -/
namespace PL
open PySem PySem.Spec L2
structure wp {α : Type} (m : M α) (Q : α → Sto → Prop) (st : Sto) : Prop where
  run : match m st with
  | .ok a s => Q a s
  | _ => False
theorem wp_is {α : Type} {m : M α} {Q : α → Sto → Prop} {st : Sto} : wp m Q st = (match m st with
  | .ok a s => Q a s
  | _ => False) := propext ⟨fun h => h.run, fun h => ⟨h⟩⟩
section
variable {α β : Type} {m : M α} {Q Q' : α → Sto → Prop} {st : Sto} {f : α → M β} {P : β → Sto → Prop}
theorem wp_pure {a : α} : wp (M.pure a) Q st = Q a st := wp_is
theorem wp_bad : wp (M.bad : M α) Q st = False := wp_is
theorem wp_bind : wp (m.bind f) P st = wp m (fun a s => wp (f a) P s) st := by
  rw [wp_is, wp_is]
  unfold M.bind
  cases m st <;> first | rfl | exact wp_is.symm
theorem wp_mono (h : wp m Q st) (k : ∀ a s, Q a s → Q' a s) : wp m Q' st := by
  rw [wp_is] at h ⊢
  cases e : m st with
  | ok a s => rw [e] at h; exact k a s h
  | err x s => rw [e] at h; exact h
  | bad => rw [e] at h; exact h
theorem wp_ok (h : wp m Q st) : ∃ a s, m st = .ok a s ∧ Q a s := by
  rw [wp_is] at h
  cases e : m st with
  | ok a s => rw [e] at h; exact ⟨a, s, rfl, h⟩
  | err x s => rw [e] at h; exact h.elim
  | bad => rw [e] at h; exact h.elim
theorem wp_of {a : α} {s : Sto} (e : m st = .ok a s) (h : Q a s) : wp m Q st := by rw [wp_is, e]; exact h
theorem wp_noX : wp (noX m) Q st = wp m Q st := by
  rw [wp_is, wp_is]
  unfold noX
  cases m st <;> rfl
theorem wp_guard {c : Bool} : wp (guardM c m) Q st = (c = true ∧ wp m Q st) := by
  unfold guardM
  by_cases h : c = true
  · rw [if_pos h]; simp [h]
  · rw [if_neg h]; simp [h, wp_bad]
theorem wp_opt {o : Option α} : wp (opt o) Q st = ∃ a, o = some a ∧ Q a st := by
  cases o with
  | none => simp [opt, wp_bad]
  | some a => simp [opt, wp_pure]
theorem wp_some {a : α} : wp (opt (some a)) Q st = Q a st := wp_is
theorem wp_line {n : Nat} {R : Unit → Sto → Prop} : wp (line n) R st = (n ≤ sizeLine ∧ R () st) := by
  rw [wp_is]
  unfold line
  by_cases h : n ≤ sizeLine
  · rw [if_pos h]; simp [h]
  · rw [if_neg h]; simp [h]
theorem wp_ite {c : Prop} [Decidable c] {m' : M α} : wp (if c then m else m') Q st = if c then wp m Q st else wp m' Q st := by split <;> rfl
theorem wp_itE {c : Prop} [Decidable c] {m' : M α} (h1 : c → wp m Q st) (h2 : ¬c → wp m' Q st) : wp (if c then m else m') Q st := by
  split
  · exact h1 ‹_›
  · exact h2 ‹_›
theorem wp_dictAt {n : Nat} {R : List (Key × D) → Sto → Prop} : wp (dictAt n) R st = ∃ kvs, st[n]? = some (.dict kvs) ∧ R kvs st := by
  rw [wp_is]
  unfold dictAt
  cases e : st[n]? with
  | none => simp
  | some o => cases o <;> simp
theorem wp_lstAt {n : Nat} {R : List D → Sto → Prop} : wp (lstAt n) R st = ∃ ds, st[n]? = some (.lst ds) ∧ R ds st := by
  rw [wp_is]
  unfold lstAt
  cases e : st[n]? with
  | none => simp
  | some o => cases o <;> simp
theorem wp_setAt {n : Nat} {o : Ob} {R : Unit → Sto → Prop} : wp (setAt n o) R st = R () (st.set n o) := wp_is
theorem wp_newOb {o : Ob} {R : D → Sto → Prop} : wp (newOb o) R st = R (.ref st.length) (st ++ [o]) := wp_is
theorem wp_put {i : Nat} {x : Slot} {ρ : En} {R : Fl × En → Sto → Prop} : wp (put i x ρ) R st = (i < ρ.length ∧ R (.nx, ρ.set i x) st) := by
  unfold put
  by_cases h : i < ρ.length
  · rw [if_pos h, wp_pure]; simp [h]
  · rw [if_neg h, wp_bad]; simp [h]
/-- a call of a def -/
theorem wp_call {n : Nat} {sem : List D → M D} {ds : List D} {R : D → Sto → Prop} (hl : ds.length = n) (h : wp (sem ds) R st) : wp (if ds.length = n then sem ds else M.bad) R st := by rw [if_pos hl]; exact h
/-- for: an invariant by what is still to come -/
theorem wp_for {bd : D → En → M (Fl × En)} {R : Fl × En → Sto → Prop} (I : List D → En → Sto → Prop) (hstep : ∀ d ds ρ s, I (d :: ds) ρ s → wp (bd d ρ) (fun r s' => match r.1 with
      | .nx => I ds r.2 s'
      | .ct => I ds r.2 s'
      | .brk => R (.nx, r.2) s'
      | .ret x => R (.ret x, r.2) s') s) (hend : ∀ ρ s, I [] ρ s → R (.nx, ρ) s) : ∀ (ds : List D) (ρ : En) (s : Sto), I ds ρ s → wp (forL bd ds ρ) R s
  | [], ρ, s, h => by unfold forL; rw [wp_pure]; exact hend ρ s h
  | d :: ds, ρ, s, h => by
    unfold forL
    rw [wp_bind]
    refine wp_mono (hstep d ds ρ s h) fun r s' k => ?_
    cases e : r.1 with
    | nx => rw [e] at k; exact wp_for I hstep hend ds r.2 s' k
    | ct => rw [e] at k; exact wp_for I hstep hend ds r.2 s' k
    | brk => rw [e] at k; rw [wp_pure]; exact k
    | ret x => rw [e] at k; rw [wp_pure]; exact k
/-- a comprehension without a test: each item by itself -/
theorem wp_lc {set : D → En → Option En} {tt : En → M Bool} {te : En → M D} {ρ : En} (I : List D → List D → Sto → Prop)
    (hstep : ∀ d ds acc s, I (d :: ds) acc s → wp ((opt (set d ρ)).bind fun ρ' => (tt ρ').bind fun b => if b = true then (te ρ').bind fun y => M.pure (some y) else M.pure none) (fun o s' => I ds (acc ++ o.toList) s') s) {R : List D → Sto → Prop} :
    ∀ (ds acc : List D) (s : Sto), I ds acc s → (∀ out s', I [] (acc ++ out) s' → R out s') → wp (lcL set tt te ρ ds) R s
  | [], acc, s, h, hend => by unfold lcL; rw [wp_pure]; exact hend [] s (by rw [List.append_nil]; exact h)
  | d :: ds, acc, s, h, hend => by
    unfold lcL
    rw [wp_bind]
    have h1 := hstep d ds acc s h
    rw [wp_bind] at h1
    refine wp_mono h1 fun ρ' s1 h2 => ?_
    rw [wp_bind] at h2 ⊢
    refine wp_mono h2 fun b s2 h3 => ?_
    by_cases hb : b = true
    · rw [if_pos hb] at h3 ⊢
      rw [wp_bind] at h3 ⊢
      refine wp_mono h3 fun y s3 h4 => ?_
      rw [wp_pure] at h4
      rw [wp_bind]
      exact wp_lc I hstep ds (acc ++ [y]) s3 h4 fun out s' k => by rw [wp_pure]; exact hend (y :: out) s' (by rw [List.append_assoc] at k; exact k)
    · rw [if_neg hb] at h3 ⊢
      rw [wp_pure] at h3
      exact wp_lc I hstep ds acc s2 (by simpa using h3) hend
end
/-! ### the store around one object -/
def Same (n : Nat) (s t : Sto) : Prop := t.length = s.length ∧ ∀ k, k ≠ n → t[k]? = s[k]?
theorem Same.refl (n : Nat) (s : Sto) : Same n s s := ⟨rfl, fun _ _ => rfl⟩
theorem Same.trans {n : Nat} {s t u : Sto} (a : Same n s t) (b : Same n t u) : Same n s u := ⟨b.1.trans a.1, fun k h => (b.2 k h).trans (a.2 k h)⟩
theorem Same.set {n : Nat} {s t : Sto} {o : Ob} (a : Same n s t) : Same n s (t.set n o) := ⟨by rw [List.length_set]; exact a.1, fun k h => by rw [List.getElem?_set_ne (Ne.symm h)]; exact a.2 k h⟩
end PL

set_option linter.all false
set_option maxRecDepth 100000
set_option maxHeartbeats 4000000
/-! PW2: the walk over a printed text, rule by rule. -/
namespace PL
open PySem PySem.Spec L2
/-! ### what follows -/
def SeqK (g : En → M (Fl × En)) (Q : Fl × En → Sto → Prop) : Fl × En → Sto → Prop := fun r s => match r.1 with
  | .nx => wp (g r.2) Q s
  | _ => Q r s
def RunK (Q : D → Sto → Prop) : Fl × En → Sto → Prop := fun r s => match r.1 with
  | .ret d => Q d s
  | .nx => Q .non s
  | _ => False
def BlK (Q : Bool → Sto → Prop) : D → Sto → Prop := fun d s => match d with
  | .bl b => Q b s
  | _ => False
def IfK (A B : Prop) (b : Bool) : Prop := (b = true → A) ∧ (b = false → B)
def StrK (Q : Str → Sto → Prop) : D → Sto → Prop := fun d s => match d with
  | .str b => Q b s
  | _ => False
def IntK (Q : Int → Sto → Prop) : D → Sto → Prop := fun d s => match d with
  | .int b => Q b s
  | _ => False
section
variable {Q : Fl × En → Sto → Prop} {R : D → Sto → Prop} {T : Bool → Sto → Prop} {A : List D → Sto → Prop} {st : Sto} {ρ : En} {f g h : En → M D} {s1 s2 : En → M (Fl × En)} {t u : En → M Bool} {ga : En → M (List D)} {P1 P2 : Prop}
theorem k_seq (k : wp (s2 ρ) Q st) : SeqK s2 Q (.nx, ρ) st := k
theorem k_seqR {d : D} (k : Q (.ret d, ρ) st) : SeqK s2 Q (.ret d, ρ) st := k
theorem k_seqB (k : Q (.brk, ρ) st) : SeqK s2 Q (.brk, ρ) st := k
theorem k_run {d : D} (k : R d st) : RunK R (.ret d, ρ) st := k
theorem k_runN (k : R .non st) : RunK R (.nx, ρ) st := k
theorem k_bl {b : Bool} (k : T b st) : BlK T (.bl b) st := k
theorem k_str {b : Str} {S : Str → Sto → Prop} (k : S b st) : StrK S (.str b) st := k
theorem k_int {b : Int} {S : Int → Sto → Prop} (k : S b st) : IntK S (.int b) st := k
theorem k_ifT (k : P1) : IfK P1 P2 true := ⟨fun _ => k, fun e => nomatch e⟩
theorem k_ifF (k : P2) : IfK P1 P2 false := ⟨fun e => (nomatch e), fun _ => k⟩
theorem k_if {b : Bool} (k1 : b = true → P1) (k2 : b = false → P2) : IfK P1 P2 b := ⟨k1, k2⟩
/-! ### bodies -/
theorem w_run {n : Nat} {ds : List D} (k : wp (s1 (ds.map Slot.val ++ List.replicate (n - ds.length) Slot.no)) (RunK R) st) : wp (runB n s1 ds) R st := by
  unfold runB
  rw [wp_bind]
  refine wp_mono k fun r s k => ?_
  obtain ⟨fl, ρ'⟩ := r
  cases fl <;> (first | exact k | exact ⟨k⟩ | (simp only [wp_pure, wp_some, wp_line, wp_bind]; exact k) | exact False.elim k | exact k.run.elim)
theorem w_run' {n : Nat} {ds : List D} (ρ : En) (e : ds.map Slot.val ++ List.replicate (n - ds.length) Slot.no = ρ) (k : wp (s1 ρ) (RunK R) st) : wp (runB n s1 ds) R st := w_run (by rw [e]; exact k)
theorem w_seq (k : wp (s1 ρ) (SeqK s2 Q) st) : wp (sSeq s1 s2 ρ) Q st := by
  unfold sSeq
  rw [wp_bind]
  refine wp_mono k fun r s k => ?_
  obtain ⟨fl, ρ'⟩ := r
  cases fl <;> (first | exact k | exact ⟨k⟩ | (simp only [wp_pure, wp_some, wp_line, wp_bind]; exact k) | exact False.elim k | exact k.run.elim)
theorem w_nil (k : Q (.nx, ρ) st) : wp (sNil ρ) Q st := by first | exact k | exact ⟨k⟩
theorem w_pass (k : Q (.nx, ρ) st) : wp (sPass ρ) Q st := by first | exact k | exact ⟨k⟩
theorem w_brk (k : Q (.brk, ρ) st) : wp (sBrk ρ) Q st := by first | exact k | exact ⟨k⟩
theorem w_ct (k : Q (.ct, ρ) st) : wp (sCt ρ) Q st := by first | exact k | exact ⟨k⟩
theorem w_ret (k : wp (f ρ) (fun d s => Q (.ret d, ρ) s) st) : wp (sRet f ρ) Q st := by unfold sRet; rw [wp_bind]; (first | exact k | exact ⟨k⟩ | (simp only [wp_pure, wp_some, wp_line, wp_bind]; exact k) | exact False.elim k | exact k.run.elim)
theorem w_expr (k : wp (f ρ) (fun d s => Q (.nx, ρ) s) st) : wp (sExpr f ρ) Q st := by unfold sExpr; rw [wp_bind]; (first | exact k | exact ⟨k⟩ | (simp only [wp_pure, wp_some, wp_line, wp_bind]; exact k) | exact False.elim k | exact k.run.elim)
theorem w_put {i : Nat} {x : Slot} (hi : i < ρ.length) (k : Q (.nx, ρ.set i x) st) : wp (put i x ρ) Q st := by rw [wp_put]; exact ⟨hi, k⟩
theorem w_set {i : Nat} (hi : i < ρ.length) (k : wp (f ρ) (fun d s => Q (.nx, ρ.set i (.val d)) s) st) : wp (sSet i f ρ) Q st := by
  unfold sSet; rw [wp_bind]
  exact wp_mono k fun d s k => w_put hi k
theorem w_own {i : Nat} (hi : i < ρ.length) (k : wp (ga ρ) (fun d s => Q (.nx, ρ.set i (.own d)) s) st) : wp (sOwn i ga ρ) Q st := by
  unfold sOwn; rw [wp_bind]
  exact wp_mono k fun d s k => w_put hi k
theorem w_frz {i : Nat} (k : wp (s1 (frz1 i ρ)) Q st) : wp (sFrz i s1 ρ) Q st := by first | exact k | exact ⟨k⟩
theorem w_if (k : wp (t ρ) (fun b s => IfK (wp (s1 ρ) Q s) (wp (s2 ρ) Q s) b) st) : wp (sIf t s1 s2 ρ) Q st := by
  unfold sIf; rw [wp_bind]
  refine wp_mono k fun b s k => ?_
  cases b with
  | true => (first | exact k.1 rfl | exact ⟨k.1 rfl⟩)
  | false => (first | exact k.2 rfl | exact ⟨k.2 rfl⟩)
theorem w_par {i j : Nat} (hi : i < ρ.length) (hj : j < ρ.length) (k : wp (f ρ) (fun d s => wp (g ρ) (fun e s => Q (.nx, (ρ.set i (.val d)).set j (.val e)) s) s) st) : wp (sPar i j f g ρ) Q st := by
  unfold sPar; rw [wp_bind]
  refine wp_mono k fun d s k => ?_
  rw [wp_bind]
  refine wp_mono k fun e s k => ?_
  rw [wp_bind]
  have : setAll [i, j] [d, e] ρ = some ((ρ.set i (.val d)).set j (.val e)) := by
    unfold setAll; rw [if_pos hi]; unfold setAll; rw [if_pos (by rw [List.length_set]; exact hj)]; rfl
  rw [this]; (first | exact k | exact ⟨k⟩ | (simp only [wp_pure, wp_some, wp_line, wp_bind]; exact k) | exact False.elim k | exact k.run.elim)
theorem w_parO {i j : Nat} (hi : i < ρ.length) (hj : j < ρ.length) (k : wp (f ρ) (fun d s => wp (ga ρ) (fun e s => Q (.nx, (ρ.set i (.val d)).set j (.own e)) s) s) st) : wp (sParO i j f ga ρ) Q st := by
  unfold sParO; rw [wp_bind]
  refine wp_mono k fun d s k => ?_
  rw [wp_bind]
  refine wp_mono k fun e s k => ?_
  rw [wp_bind]
  have : setAll [i] [d] ρ = some (ρ.set i (.val d)) := by unfold setAll; rw [if_pos hi]; rfl
  rw [this, wp_some]
  exact w_put (by rw [List.length_set]; exact hj) k
theorem w_un {pt : Pt} (k : wp (f ρ) (fun d s => ∃ r, pt.set d ρ = some r ∧ Q (.nx, r) s) st) : wp (sUn pt f ρ) Q st := by
  unfold sUn; rw [wp_bind]
  refine wp_mono k fun d s ⟨r, e, k⟩ => ?_
  rw [wp_bind, e]; (first | exact k | exact ⟨k⟩ | (simp only [wp_pure, wp_some, wp_line, wp_bind]; exact k) | exact False.elim k | exact k.run.elim)
theorem w_dput (k : wp (h ρ) (fun v s => wp (f ρ) (fun x s => wp (g ρ) (fun y s => wp (dpM x y v) (fun _ s => Q (.nx, ρ) s) s) s) s) st) : wp (PL.sDPut f g h ρ) Q st := by
  unfold PL.sDPut; rw [wp_bind]
  refine wp_mono k fun v s k => ?_
  rw [wp_bind]
  refine wp_mono k fun x s k => ?_
  rw [wp_bind]
  refine wp_mono k fun y s k => ?_
  rw [wp_bind]; (first | exact k | exact ⟨k⟩ | (simp only [wp_pure, wp_some, wp_line, wp_bind]; exact k) | exact False.elim k | exact k.run.elim)
theorem w_app {i : Nat} {ds : List D} (hi : ρ[i]? = some (.own ds)) (k : wp (f ρ) (fun d s => ds.length + 1 ≤ sizeLine ∧ Q (.nx, ρ.set i (.own (ds ++ [d]))) s) st) : wp (sApp i f ρ) Q st := by
  unfold sApp; rw [hi]
  show wp ((f ρ).bind _) Q st
  rw [wp_bind]
  refine wp_mono k fun d s ⟨hl, k⟩ => ?_
  rw [wp_bind, wp_line]
  exact ⟨hl, w_put (List.getElem?_eq_some_iff.mp hi).1 k⟩
theorem w_ext {i : Nat} {ds : List D} (hi : ρ[i]? = some (.own ds)) (k : wp (f ρ) (fun d s => ∃ es, d = .lst es ∧ ds.length + es.length ≤ sizeLine ∧ Q (.nx, ρ.set i (.own (ds ++ es))) s) st) : wp (sExt i f ρ) Q st := by
  unfold sExt; rw [hi]
  show wp ((f ρ).bind _) Q st
  rw [wp_bind]
  refine wp_mono k fun d s ⟨es, e, hl, k⟩ => ?_
  subst e
  show wp ((line (ds.length + es.length)).bind fun _ => put i (.own (ds ++ es)) ρ) Q s
  rw [wp_bind, wp_line]
  exact ⟨hl, w_put (List.getElem?_eq_some_iff.mp hi).1 k⟩
/-! ### expressions -/
theorem w_var {i : Nat} {d : D} (hi : ρ[i]? = some (.val d)) (k : R d st) : wp (eVar i ρ) R st := by unfold eVar; rw [hi]; (first | exact k | exact ⟨k⟩ | (simp only [wp_pure, wp_some, wp_line, wp_bind]; exact k) | exact False.elim k | exact k.run.elim)
theorem w_look {i : Nat} {ds : List D} (hi : ρ[i]? = some (.own ds)) (k : R (.lst ds) st) : wp (eLook i ρ) R st := by unfold eLook; rw [hi]; (first | exact k | exact ⟨k⟩ | (simp only [wp_pure, wp_some, wp_line, wp_bind]; exact k) | exact False.elim k | exact k.run.elim)
theorem w_lookV {i : Nat} {d : D} (hi : ρ[i]? = some (.val d)) (k : R d st) : wp (eLook i ρ) R st := by unfold eLook; rw [hi]; (first | exact k | exact ⟨k⟩ | (simp only [wp_pure, wp_some, wp_line, wp_bind]; exact k) | exact False.elim k | exact k.run.elim)
theorem w_c {d : D} (k : R d st) : wp (eC d ρ) R st := by first | exact k | exact ⟨k⟩
theorem w_e1 {p : D → M D} (k : wp (f ρ) (fun x s => wp (p x) R s) st) : wp (e1 p f ρ) R st := by unfold e1; rw [wp_bind]; (first | exact k | exact ⟨k⟩ | (simp only [wp_pure, wp_some, wp_line, wp_bind]; exact k) | exact False.elim k | exact k.run.elim)
theorem w_e2 {p : D → D → M D} (k : wp (f ρ) (fun x s => wp (g ρ) (fun y s => wp (p x y) R s) s) st) : wp (e2 p f g ρ) R st := by
  unfold e2; rw [wp_bind]
  refine wp_mono k fun x s k => ?_
  rw [wp_bind]; (first | exact k | exact ⟨k⟩ | (simp only [wp_pure, wp_some, wp_line, wp_bind]; exact k) | exact False.elim k | exact k.run.elim)
theorem w_aN (k : A [] st) : wp (aNil ρ) A st := by first | exact k | exact ⟨k⟩
theorem w_aC (k : wp (f ρ) (fun x s => wp (ga ρ) (fun xs s => A (x :: xs) s) s) st) : wp (aCons f ga ρ) A st := by
  unfold aCons; rw [wp_bind]
  refine wp_mono k fun x s k => ?_
  rw [wp_bind]; (first | exact k | exact ⟨k⟩ | (simp only [wp_pure, wp_some, wp_line, wp_bind]; exact k) | exact False.elim k | exact k.run.elim)
theorem w_tup (k : wp (ga ρ) (fun xs s => xs.length ≤ sizeLine ∧ R (.tup xs) s) st) : wp (eTup ga ρ) R st := by
  unfold eTup; rw [wp_bind]
  refine wp_mono k fun x s k => ?_
  rw [wp_bind, wp_line]; (first | exact k | exact ⟨k⟩ | (simp only [wp_pure, wp_some, wp_line, wp_bind]; exact k) | exact False.elim k | exact k.run.elim)
theorem w_lst (k : wp (ga ρ) (fun xs s => xs.length ≤ sizeLine ∧ R (.lst xs) s) st) : wp (eLst ga ρ) R st := by
  unfold eLst; rw [wp_bind]
  refine wp_mono k fun x s k => ?_
  rw [wp_bind, wp_line]; (first | exact k | exact ⟨k⟩ | (simp only [wp_pure, wp_some, wp_line, wp_bind]; exact k) | exact False.elim k | exact k.run.elim)
theorem w_fLst (k : wp (ga ρ) (fun xs s => xs.length ≤ sizeLine ∧ A xs s) st) : wp (fLst ga ρ) A st := by
  unfold fLst; rw [wp_bind]
  refine wp_mono k fun x s k => ?_
  rw [wp_bind, wp_line]; (first | exact k | exact ⟨k⟩ | (simp only [wp_pure, wp_some, wp_line, wp_bind]; exact k) | exact False.elim k | exact k.run.elim)
theorem w_eL (k : wp (ga ρ) (fun xs s => R (.lst xs) s) st) : wp (eL ga ρ) R st := by unfold eL; rw [wp_bind]; (first | exact k | exact ⟨k⟩ | (simp only [wp_pure, wp_some, wp_line, wp_bind]; exact k) | exact False.elim k | exact k.run.elim)
theorem w_call {n : Nat} {sem : List D → M D} (k : wp (ga ρ) (fun ds s => ds.length = n ∧ wp (sem ds) R s) st) : wp (eCall n sem ga ρ) R st := by
  unfold eCall; rw [wp_bind]
  refine wp_mono k fun ds s ⟨hl, k⟩ => ?_
  exact wp_call hl k
theorem w_tBl (k : wp (f ρ) (BlK T) st) : wp (tBl f ρ) T st := by
  unfold tBl; rw [wp_bind]
  refine wp_mono k fun d s k => ?_
  cases d <;> (first | exact k | exact ⟨k⟩ | (simp only [wp_pure, wp_some, wp_line, wp_bind]; exact k) | exact False.elim k | exact k.run.elim)
theorem w_tNt (k : wp (t ρ) (fun b s => T (!b) s) st) : wp (tNt t ρ) T st := by unfold tNt; rw [wp_bind]; (first | exact k | exact ⟨k⟩ | (simp only [wp_pure, wp_some, wp_line, wp_bind]; exact k) | exact False.elim k | exact k.run.elim)
theorem w_tAn (k : wp (t ρ) (fun b s => IfK (wp (u ρ) T s) (T false s) b) st) : wp (tAn t u ρ) T st := by
  unfold tAn; rw [wp_bind]
  refine wp_mono k fun b s k => ?_
  cases b with
  | true => (first | exact k.1 rfl | exact ⟨k.1 rfl⟩)
  | false => (first | exact k.2 rfl | exact ⟨k.2 rfl⟩)
theorem w_tOr (k : wp (t ρ) (fun b s => IfK (T true s) (wp (u ρ) T s) b) st) : wp (tOor t u ρ) T st := by
  unfold tOor; rw [wp_bind]
  refine wp_mono k fun b s k => ?_
  cases b with
  | true => (first | exact k.1 rfl | exact ⟨k.1 rfl⟩)
  | false => (first | exact k.2 rfl | exact ⟨k.2 rfl⟩)
theorem w_vAnd (k : wp (f ρ) (BlK fun b s => IfK (wp (g ρ) R s) (R (.bl false) s) b) st) : wp (vAnd f g ρ) R st := by
  unfold vAnd; rw [wp_bind]
  refine wp_mono k fun d s k => ?_
  cases d with
  | bl b => cases b with
    | true => (first | exact k.1 rfl | exact ⟨k.1 rfl⟩)
    | false => (first | exact k.2 rfl | exact ⟨k.2 rfl⟩)
  | _ => (first | exact k | exact ⟨k⟩ | (simp only [wp_pure, wp_some, wp_line, wp_bind]; exact k) | exact False.elim k | exact k.run.elim)
theorem w_vOr (k : wp (f ρ) (BlK fun b s => IfK (R (.bl true) s) (wp (g ρ) R s) b) st) : wp (vOr f g ρ) R st := by
  unfold vOr; rw [wp_bind]
  refine wp_mono k fun d s k => ?_
  cases d with
  | bl b => cases b with
    | true => (first | exact k.1 rfl | exact ⟨k.1 rfl⟩)
    | false => (first | exact k.2 rfl | exact ⟨k.2 rfl⟩)
  | _ => (first | exact k | exact ⟨k⟩ | (simp only [wp_pure, wp_some, wp_line, wp_bind]; exact k) | exact False.elim k | exact k.run.elim)
theorem w_vNot (k : wp (f ρ) (BlK fun b s => R (.bl (!b)) s) st) : wp (vNot f ρ) R st := by
  unfold vNot; rw [wp_bind]
  refine wp_mono k fun d s k => ?_
  cases d <;> (first | exact k | exact ⟨k⟩ | (simp only [wp_pure, wp_some, wp_line, wp_bind]; exact k) | exact False.elim k | exact k.run.elim)
theorem w_eIf (k : wp (t ρ) (fun b s => IfK (wp (f ρ) R s) (wp (g ρ) R s) b) st) : wp (eIf t f g ρ) R st := by
  unfold eIf; rw [wp_bind]
  refine wp_mono k fun b s k => ?_
  cases b with
  | true => (first | exact k.1 rfl | exact ⟨k.1 rfl⟩)
  | false => (first | exact k.2 rfl | exact ⟨k.2 rfl⟩)
theorem w_eCh {p q : D → D → M D} (k : wp (f ρ) (fun x s => wp (g ρ) (fun y s => wp (p x y) (BlK fun b s => IfK (wp (h ρ) (fun z s => wp (q y z) R s) s) (R (.bl false) s) b) s) s) st) : wp (eCh p q f g h ρ) R st := by
  unfold eCh; rw [wp_bind]
  refine wp_mono k fun x s k => ?_
  rw [wp_bind]
  refine wp_mono k fun y s k => ?_
  rw [wp_bind]
  refine wp_mono k fun d s k => ?_
  cases d with
  | bl b => cases b with
    | true =>
      show wp ((h ρ).bind fun u => q y u) R s
      rw [wp_bind]; (first | exact k.1 rfl | exact ⟨k.1 rfl⟩)
    | false => (first | exact k.2 rfl | exact ⟨k.2 rfl⟩)
  | _ => (first | exact k | exact ⟨k⟩ | (simp only [wp_pure, wp_some, wp_line, wp_bind]; exact k) | exact False.elim k | exact k.run.elim)
theorem w_neg (k : wp (f ρ) (IntK fun i s => R (.int (-i)) s) st) : wp (eNeg f ρ) R st := by
  unfold eNeg; rw [wp_bind]
  refine wp_mono k fun d s k => ?_
  cases d <;> (first | exact k | exact ⟨k⟩ | (simp only [wp_pure, wp_some, wp_line, wp_bind]; exact k) | exact False.elim k | exact k.run.elim)
variable {lo hi : En → M (Option Int)} {O : Option Int → Sto → Prop}
theorem w_oNo (k : O none st) : wp (oNo ρ) O st := by first | exact k | exact ⟨k⟩
theorem w_oSo (k : wp (f ρ) (IntK fun i s => O (some i) s) st) : wp (oSo f ρ) O st := by
  unfold oSo; rw [wp_bind]
  refine wp_mono k fun d s k => ?_
  cases d <;> (first | exact k | exact ⟨k⟩ | (simp only [wp_pure, wp_some, wp_line, wp_bind]; exact k) | exact False.elim k | exact k.run.elim)
theorem w_sl (k : wp (f ρ) (fun x s => wp (lo ρ) (fun l s => wp (hi ρ) (fun h s => wp (slM x l h) R s) s) s) st) : wp (eSl f lo hi ρ) R st := by
  unfold eSl; rw [wp_bind]
  refine wp_mono k fun x s k => ?_
  rw [wp_bind]
  refine wp_mono k fun x s k => ?_
  rw [wp_bind]; (first | exact k | exact ⟨k⟩ | (simp only [wp_pure, wp_some, wp_line, wp_bind]; exact k) | exact False.elim k | exact k.run.elim)
theorem w_m1 {q : Str → D → M D} (k : wp (f ρ) (StrK fun a s => wp (g ρ) (fun y s => wp (q a y) R s) s) st) : wp (eM1 q f g ρ) R st := by
  unfold eM1; rw [wp_bind]
  refine wp_mono k fun d s k => ?_
  cases d with
  | str a =>
    show wp ((g ρ).bind fun y => q a y) R s
    rw [wp_bind]; (first | exact k | exact ⟨k⟩ | (simp only [wp_pure, wp_some, wp_line, wp_bind]; exact k) | exact False.elim k | exact k.run.elim)
  | _ => (first | exact k | exact ⟨k⟩ | (simp only [wp_pure, wp_some, wp_line, wp_bind]; exact k) | exact False.elim k | exact k.run.elim)
/-! ### operators on known data -/
theorem w_addI {i j : Int} (k : R (.int (i + j)) st) : wp (addM (.int i) (.int j)) R st := by first | exact k | exact ⟨k⟩
theorem w_addS {i j : Str} (hl : i.length + j.length ≤ sizeLine) (k : R (.str (i ++ j)) st) : wp (addM (.str i) (.str j)) R st := by
  show wp ((line _).bind _) R st
  rw [wp_bind, wp_line]; exact ⟨hl, by first | exact k | exact ⟨k⟩⟩
theorem w_addT {i j : List D} (hl : i.length + j.length ≤ sizeLine) (k : R (.tup (i ++ j)) st) : wp (addM (.tup i) (.tup j)) R st := by
  show wp ((line _).bind _) R st
  rw [wp_bind, wp_line]; exact ⟨hl, by first | exact k | exact ⟨k⟩⟩
theorem w_addL {i j : List D} (hl : i.length + j.length ≤ sizeLine) (k : R (.lst (i ++ j)) st) : wp (addM (.lst i) (.lst j)) R st := by
  show wp ((line _).bind _) R st
  rw [wp_bind, wp_line]; exact ⟨hl, by first | exact k | exact ⟨k⟩⟩
theorem w_int2 {C : Int → Int → Bool} {p : Int → Int → Int} {i j : Int} (hc : C i j = true) (k : R (.int (p i j)) st) : wp (int2 C p (.int i) (.int j)) R st := by
  show wp (guardM _ _) R st
  rw [wp_guard]; exact ⟨hc, by first | exact k | exact ⟨k⟩⟩
theorem w_ltI {i j : Int} (k : R (.bl (decide (i < j))) st) : wp (ltM (.int i) (.int j)) R st := by first | exact k | exact ⟨k⟩
theorem w_leI {i j : Int} (k : R (.bl (decide (i ≤ j))) st) : wp (leM (.int i) (.int j)) R st := by first | exact k | exact ⟨k⟩
theorem w_gtI {i j : Int} (k : R (.bl (decide (j < i))) st) : wp (gtM (.int i) (.int j)) R st := by first | exact k | exact ⟨k⟩
theorem w_geI {i j : Int} (k : R (.bl (decide (j ≤ i))) st) : wp (geM (.int i) (.int j)) R st := by first | exact k | exact ⟨k⟩
theorem w_eq {x y : D} (hx : x.shp = true) (hy : y.shp = true) (k : R (.bl (x.eqv y)) st) : wp (eqM x y) R st := by
  show wp (guardM _ _) R st
  rw [wp_guard]; exact ⟨by rw [hx, hy]; rfl, by first | exact k | exact ⟨k⟩⟩
theorem w_ne {x y : D} (hx : x.shp = true) (hy : y.shp = true) (k : R (.bl (!x.eqv y)) st) : wp (neM x y) R st := by
  show wp (guardM _ _) R st
  rw [wp_guard]; exact ⟨by rw [hx, hy]; rfl, by first | exact k | exact ⟨k⟩⟩
theorem w_lenL {xs : List D} (k : R (.int xs.length) st) : wp (lenM (.lst xs)) R st := by first | exact k | exact ⟨k⟩
theorem w_lenT {xs : List D} (k : R (.int xs.length) st) : wp (lenM (.tup xs)) R st := by first | exact k | exact ⟨k⟩
theorem w_lenS {x : Str} (hl : x.length ≤ sizeLine) (k : R (.int x.length) st) : wp (lenM (.str x)) R st := by
  show wp ((line _).bind _) R st
  rw [wp_bind, wp_line]; exact ⟨hl, by first | exact k | exact ⟨k⟩⟩
theorem w_ixL {xs : List D} {i : Int} {d : D} (e : atI xs i = some d) (k : R d st) : wp (ixM (.lst xs) (.int i)) R st := by
  show wp (opt _) R st
  rw [e]; (first | exact k | exact ⟨k⟩ | (simp only [wp_pure, wp_some, wp_line, wp_bind]; exact k) | exact False.elim k | exact k.run.elim)
theorem w_ixT {xs : List D} {i : Int} {d : D} (e : atI xs i = some d) (k : R d st) : wp (ixM (.tup xs) (.int i)) R st := by
  show wp (opt _) R st
  rw [e]; (first | exact k | exact ⟨k⟩ | (simp only [wp_pure, wp_some, wp_line, wp_bind]; exact k) | exact False.elim k | exact k.run.elim)
theorem w_ixS {x : Str} {i : Int} {c : Nat} (hl : x.length ≤ sizeLine) (e : atI x.cps.toList i = some c) (k : R (.str ⟨#[c]⟩) st) : wp (ixM (.str x) (.int i)) R st := by
  show wp ((line _).bind _) R st
  rw [wp_bind, wp_line]
  refine ⟨hl, ?_⟩
  rw [wp_bind, e]; (first | exact k | exact ⟨k⟩ | (simp only [wp_pure, wp_some, wp_line, wp_bind]; exact k) | exact False.elim k | exact k.run.elim)
theorem w_intI {i : Int} (k : R (.int i) st) : wp (intM (.int i)) R st := by first | exact k | exact ⟨k⟩
theorem w_slL {xs : List D} {l u : Option Int} (k : R (.lst (cutD xs l u)) st) : wp (slM (.lst xs) l u) R st := by first | exact k | exact ⟨k⟩
theorem w_slF {xs : List D} {l u : Option Int} (k : R (.lst (cutD xs l u)) st) : wp (slM (.frz xs) l u) R st := by first | exact k | exact ⟨k⟩
theorem w_slT {xs : List D} {l u : Option Int} (k : R (.tup (cutD xs l u)) st) : wp (slM (.tup xs) l u) R st := by first | exact k | exact ⟨k⟩
theorem w_slS {x : Str} {l u : Option Int} (hl : x.length ≤ sizeLine) (k : R (.str (cutS x l u)) st) : wp (slM (.str x) l u) R st := by
  show wp ((line _).bind _) R st
  rw [wp_bind, wp_line]; exact ⟨hl, by first | exact k | exact ⟨k⟩⟩
theorem w_tupL {xs : List D} (k : R (.tup xs) st) : wp (tupM (.lst xs)) R st := by first | exact k | exact ⟨k⟩
theorem w_tupT {xs : List D} (k : R (.tup xs) st) : wp (tupM (.tup xs)) R st := by first | exact k | exact ⟨k⟩
theorem w_range {n : Int} {A : List D → Sto → Prop} (h1 : -(2 ^ 62) ≤ n) (h2 : n < 2 ^ 62) (h3 : n.toNat ≤ sizeLine) (k : A ((List.range n.toNat).map fun (i : Nat) => D.int i) st) : wp (rangeL 0 n) A st := by
  rw [wp_is]
  unfold rangeL
  rw [Int.sub_zero, if_pos ⟨by decide, by decide, h1, h2, h3⟩]
  have e : ((List.range n.toNat).map fun (i : Nat) => D.int (0 + (i : Int))) = (List.range n.toNat).map fun (i : Nat) => D.int i := List.map_congr_left fun i _ => by rw [Int.zero_add]
  rw [e]; (first | exact k | exact ⟨k⟩ | (simp only [wp_pure, wp_some, wp_line, wp_bind]; exact k) | exact False.elim k | exact k.run.elim)
theorem w_iR1 {A : List D → Sto → Prop} (k : wp (ga ρ) (fun ds s => ∃ n, ds = [.int n] ∧ wp (rangeL 0 n) A s) st) : wp (iRange1 ga ρ) A st := by
  unfold iRange1; rw [wp_bind]
  refine wp_mono k fun ds s ⟨n, e, k⟩ => ?_
  subst e; (first | exact k | exact ⟨k⟩ | (simp only [wp_pure, wp_some, wp_line, wp_bind]; exact k) | exact False.elim k | exact k.run.elim)
theorem w_iSeq {A : List D → Sto → Prop} (k : wp (f ρ) (fun d s => ∃ ds, itD d = some ds ∧ A ds s) st) : wp (iSeq f ρ) A st := by
  unfold iSeq; rw [wp_bind]
  refine wp_mono k fun d s ⟨ds, e, k⟩ => ?_
  rw [e]; (first | exact k | exact ⟨k⟩ | (simp only [wp_pure, wp_some, wp_line, wp_bind]; exact k) | exact False.elim k | exact k.run.elim)
theorem w_for {it : En → M (List D)} {p : Pt} (k : wp (it ρ) (fun ds s => wp (forL (fun d ρ => (opt (p.set d ρ)).bind s1) ds ρ) Q s) st) : wp (sFor it p s1 ρ) Q st := by unfold sFor; rw [wp_bind]; (first | exact k | exact ⟨k⟩ | (simp only [wp_pure, wp_some, wp_line, wp_bind]; exact k) | exact False.elim k | exact k.run.elim)
theorem w_lc {it : En → M (List D)} {p : Pt} {vs : List Nat} (k : wp (it ρ) (fun ds s => wp (lcL p.set t f (wipeE ρ vs) ds) A s) st) : wp (eLc it p vs t f ρ) A st := by
  unfold eLc; rw [wp_bind]
  refine wp_mono k fun ds s k => ?_
  rw [wp_noX]; (first | exact k | exact ⟨k⟩ | (simp only [wp_pure, wp_some, wp_line, wp_bind]; exact k) | exact False.elim k | exact k.run.elim)
theorem w_true (k : T true st) : wp (tTrue ρ) T st := by first | exact k | exact ⟨k⟩
theorem w_in {x y : D} {ds : List D} (hy : seqD y = some ds) (hx : x.shp = true) (hys : y.shp = true) (k : R (.bl (ds.any fun z => z.eqv x)) st) : wp (inM x y) R st := by
  cases y with
  | tup es => cases hy; show wp (guardM _ _) R st; rw [wp_guard]; exact ⟨by rw [hx, hys]; rfl, by first | exact k | exact ⟨k⟩⟩
  | lst es => cases hy; show wp (guardM _ _) R st; rw [wp_guard]; exact ⟨by rw [hx, hys]; rfl, by first | exact k | exact ⟨k⟩⟩
  | frz es => cases hy; show wp (guardM _ _) R st; rw [wp_guard]; exact ⟨by rw [hx, hys]; rfl, by first | exact k | exact ⟨k⟩⟩
  | _ => cases hy
theorem w_notIn {x y : D} {ds : List D} (hy : seqD y = some ds) (hx : x.shp = true) (hys : y.shp = true) (k : R (.bl (!ds.any fun z => z.eqv x)) st) : wp (notInM x y) R st := by
  cases y with
  | tup es => cases hy; show wp (guardM _ _) R st; rw [wp_guard]; exact ⟨by rw [hx, hys]; rfl, by first | exact k | exact ⟨k⟩⟩
  | lst es => cases hy; show wp (guardM _ _) R st; rw [wp_guard]; exact ⟨by rw [hx, hys]; rfl, by first | exact k | exact ⟨k⟩⟩
  | frz es => cases hy; show wp (guardM _ _) R st; rw [wp_guard]; exact ⟨by rw [hx, hys]; rfl, by first | exact k | exact ⟨k⟩⟩
  | _ => cases hy
end
end PL

set_option linter.all false
set_option maxRecDepth 100000
set_option maxHeartbeats 4000000
/-! PW3: data that may be compared; equality; places. -/
namespace PL
open PySem PySem.Spec L2
structure Shp (k : Nat) (d : D) : Prop where
  can : d.py.canLay0 = true
  dep : d.py.depth ≤ k
theorem Shp.shp {k : Nat} {d : D} (h : Shp k d) (hk : k ≤ 64 := by decide) : d.shp = true := by
  unfold D.shp SeqAt.shaped
  rw [h.can, Bool.true_and]
  exact decide_eq_true (Nat.le_trans h.dep hk)
theorem Shp.mono {j k : Nat} {d : D} (h : Shp j d) (hk : j ≤ k := by decide) : Shp k d := ⟨h.can, Nat.le_trans h.dep hk⟩
theorem shp_int {i : Int} : Shp 0 (.int i) := ⟨by simp [D.py, PyData.canLay0], by simp [D.py, PyData.depth]⟩
theorem shp_bl {i : Bool} : Shp 0 (.bl i) := ⟨by simp [D.py, PyData.canLay0], by simp [D.py, PyData.depth]⟩
theorem shp_non : Shp 0 .non := ⟨by simp [D.py, PyData.canLay0], by simp [D.py, PyData.depth]⟩
theorem shp_str {x : Str} (h : PyData.strOk x = true) : Shp 0 (.str x) := ⟨by simp [D.py, PyData.canLay0, h], by simp [D.py, PyData.depth]⟩
theorem shpL_all {k : Nat} : ∀ {ds : List D}, (∀ d ∈ ds, Shp k d) → PyData.canLayAll0 (pyL ds) = true ∧ PyData.depthAll (pyL ds) ≤ k
  | [], _ => ⟨by simp [pyL, PyData.canLayAll0], by simp [pyL, PyData.depthAll]⟩
  | d :: ds, h => by
    obtain ⟨h1, h2⟩ := shpL_all (ds := ds) fun e he => h e (List.mem_cons_of_mem _ he)
    have h3 := h d List.mem_cons_self
    exact ⟨by simp [pyL, PyData.canLayAll0, h1, h3.can], by simp only [pyL, PyData.depthAll]; exact Nat.max_le.mpr ⟨h3.dep, h2⟩⟩
theorem shp_tup {k : Nat} {ds : List D} (h : ∀ d ∈ ds, Shp k d) : Shp (k + 1) (.tup ds) := by
  obtain ⟨h1, h2⟩ := shpL_all h
  exact ⟨by simp [D.py, PyData.canLay0, h1], by simp only [D.py, PyData.depth]; omega⟩
theorem shp_lst {k : Nat} {ds : List D} (h : ∀ d ∈ ds, Shp k d) : Shp (k + 1) (.lst ds) := by
  obtain ⟨h1, h2⟩ := shpL_all h
  exact ⟨by simp [D.py, PyData.canLay0, h1], by simp only [D.py, PyData.depth]; omega⟩
theorem shp_lst0 : Shp 0 (.lst []) → True := fun _ => trivial
/-! ### equality -/
theorem eqv_ii {i j : Int} : (D.int i).eqv (.int j) = (i == j) := by simp [D.eqv, D.py, PyData.eqv]
theorem eqv_ss {i j : Str} : (D.str i).eqv (.str j) = (i == j) := by simp [D.eqv, D.py, PyData.eqv]
def eqvL : List D → List D → Bool
  | [], [] => true
  | x :: xs, y :: ys => x.eqv y && eqvL xs ys
  | _, _ => false
theorem eqvL_py : ∀ xs ys : List D, PyData.eqvAll (pyL xs) (pyL ys) = eqvL xs ys
  | [], [] => by simp [pyL, PyData.eqvAll, eqvL]
  | [], _ :: _ => by simp [pyL, PyData.eqvAll, eqvL]
  | _ :: _, [] => by simp [pyL, PyData.eqvAll, eqvL]
  | x :: xs, y :: ys => by
    simp only [pyL, PyData.eqvAll, eqvL, eqvL_py xs ys]
    rfl
theorem eqv_tt {i j : List D} : (D.tup i).eqv (.tup j) = eqvL i j := by simp [D.eqv, D.py, PyData.eqv, eqvL_py]
theorem eqv_ll {i j : List D} : (D.lst i).eqv (.lst j) = eqvL i j := by simp [D.eqv, D.py, PyData.eqv, eqvL_py]
theorem eqvL_nil (xs : List D) : eqvL xs [] = xs.isEmpty := by cases xs <;> rfl
theorem eqv_si {i : Str} {j : Int} : (D.str i).eqv (.int j) = false := by simp [D.eqv, D.py, PyData.eqv]
/-! ### places -/
theorem atI_map {α β : Type} (f : α → β) (xs : List α) (i : Int) : atI (xs.map f) i = (atI xs i).map f := by
  unfold L2.atI
  rw [List.length_map]
  cases ixN xs.length i with
  | none => rfl
  | some j => simp
theorem atI_lt {α : Type} {xs : List α} {i : Int} (h0 : 0 ≤ i) (h1 : i < xs.length) : ∃ x, atI xs i = some x ∧ x ∈ xs := by
  obtain ⟨j, rfl⟩ := Int.eq_ofNat_of_zero_le h0
  have hj : j < xs.length := by omega
  exact ⟨xs[j], atI_nat (List.getElem?_eq_getElem hj), List.getElem_mem hj⟩
end PL

set_option linter.all false
set_option maxRecDepth 100000
set_option maxHeartbeats 4000000
/-! PW4: comprehensions and walks with one name. -/
namespace PL
open PySem PySem.Spec L2
section
variable {i : Nat} {tt : En → M Bool} {te : En → M D} {ρ : En} {R : List D → Sto → Prop}
theorem set_nm {d : D} (hi : i < ρ.length) : (Pt.nm i).set d ρ = some (ρ.set i (.val d)) := by
  cases d <;> exact if_pos hi
/-- each item gives one item; F: what is kept of the store -/
theorem lc_each (hi : i < ρ.length) (P : D → Prop) (F : Sto → Prop) : ∀ (ds : List D) (st : Sto) {R : List D → Sto → Prop}, (∀ d ∈ ds, ∀ s, F s → wp (te (ρ.set i (.val d))) (fun y s' => P y ∧ F s') s) → F st →
    (∀ out s', out.length = ds.length → (∀ y ∈ out, P y) → F s' → R out s') → wp (lcL (Pt.nm i).set tTrue te ρ ds) R st
  | [], st, R, _, hF, k => by unfold lcL; rw [wp_pure]; exact k [] st rfl (fun _ h => absurd h List.not_mem_nil) hF
  | d :: ds, st, R, hs, hF, k => by
    unfold lcL
    rw [set_nm hi]
    show wp ((te (ρ.set i (.val d))).bind fun y => (lcL (Pt.nm i).set tTrue te ρ ds).bind fun ys => M.pure (y :: ys)) R st
    rw [wp_bind]
    refine wp_mono (hs d List.mem_cons_self st hF) fun y s1 ⟨hy, hF1⟩ => ?_
    rw [wp_bind]
    refine lc_each hi P F ds s1 (R := fun ys s => wp (M.pure (y :: ys)) R s) (fun e he => hs e (List.mem_cons_of_mem _ he)) hF1 fun out s' hl hP hF' => ?_
    rw [wp_pure]
    exact k (y :: out) s' (by rw [List.length_cons, List.length_cons, hl]) (fun z hz => by
      rcases List.mem_cons.mp hz with e | e
      · rw [e]; exact hy
      · exact hP z e) hF'
/-- each item gives what g says, nothing else happens -/
theorem lc_map (hi : i < ρ.length) (g : D → D) : ∀ (ds : List D) (st : Sto) {R : List D → Sto → Prop}, (∀ d ∈ ds, ∀ (Q : D → Sto → Prop), Q (g d) st → wp (te (ρ.set i (.val d))) Q st) → R (ds.map g) st → wp (lcL (Pt.nm i).set tTrue te ρ ds) R st
  | [], st, R, _, k => by unfold lcL; rw [wp_pure]; exact k
  | d :: ds, st, R, hs, k => by
    unfold lcL
    rw [set_nm hi]
    show wp ((te (ρ.set i (.val d))).bind fun y => (lcL (Pt.nm i).set tTrue te ρ ds).bind fun ys => M.pure (y :: ys)) R st
    rw [wp_bind]
    refine hs d List.mem_cons_self _ ?_
    rw [wp_bind]
    exact lc_map hi g ds st (R := fun ys s => wp (M.pure (g d :: ys)) R s) (fun e he => hs e (List.mem_cons_of_mem _ he)) (by rw [wp_pure]; exact k)
/-- those items at which p holds -/
theorem lc_filter (hi : i < ρ.length) (p : D → Bool) : ∀ (ds : List D) (st : Sto) {R : List D → Sto → Prop}, (∀ d ∈ ds, ∀ (T : Bool → Sto → Prop), T (p d) st → wp (tt (ρ.set i (.val d))) T st) → R (ds.filter p) st → wp (lcL (Pt.nm i).set tt (eVar i) ρ ds) R st
  | [], st, R, _, k => by unfold lcL; rw [wp_pure]; exact k
  | d :: ds, st, R, hs, k => by
    unfold lcL
    rw [set_nm hi]
    show wp ((tt (ρ.set i (.val d))).bind fun b => if b = true then (eVar i (ρ.set i (.val d))).bind fun y => (lcL (Pt.nm i).set tt (eVar i) ρ ds).bind fun ys => M.pure (y :: ys) else lcL (Pt.nm i).set tt (eVar i) ρ ds) R st
    rw [wp_bind]
    refine hs d List.mem_cons_self _ ?_
    by_cases h : p d = true
    · rw [if_pos h, wp_bind]
      refine w_var (List.getElem?_set_self hi) ?_
      rw [wp_bind]
      exact lc_filter hi p ds st (R := fun ys s => wp (M.pure (d :: ys)) R s) (fun e he => hs e (List.mem_cons_of_mem _ he)) (by rw [List.filter_cons_of_pos h] at k; rw [wp_pure]; exact k)
    · rw [if_neg h]
      exact lc_filter hi p ds st (fun e he => hs e (List.mem_cons_of_mem _ he)) (by rw [List.filter_cons_of_neg h] at k; exact k)
/-- a walk with one name: I by the number of items that are done -/
theorem for_each {bd : En → M (Fl × En)} {Q : Fl × En → Sto → Prop} {p : Pt} (I : Nat → En → Sto → Prop) : ∀ (ds : List D) (j : Nat) (ρ : En) (st : Sto), (∀ m d ρ s, ds[m]? = some d → I (j + m) ρ s → ∃ ρ', p.set d ρ = some ρ' ∧ wp (bd ρ') (fun r s' => r.1 = .nx ∧ I (j + m + 1) r.2 s') s) → I j ρ st →
    (∀ ρ s, I (j + ds.length) ρ s → Q (.nx, ρ) s) → wp (forL (fun d ρ => (opt (p.set d ρ)).bind bd) ds ρ) Q st
  | [], j, ρ, st, _, hI, k => by unfold forL; rw [wp_pure]; exact k ρ st hI
  | d :: ds, j, ρ, st, hs, hI, k => by
    unfold forL
    obtain ⟨ρ', e, h⟩ := hs 0 d ρ st rfl hI
    rw [e]
    show wp ((bd ρ').bind _) Q st
    rw [wp_bind]
    refine wp_mono h fun r s1 ⟨e1, h1⟩ => ?_
    obtain ⟨fl, ρ1⟩ := r
    cases e1
    exact for_each I ds (j + 1) ρ1 s1 (fun m d ρ s hm hi => by
      have := hs (m + 1) d ρ s (by simpa using hm) (by rw [show j + (m + 1) = j + 1 + m by omega]; exact hi)
      rw [show j + (m + 1) + 1 = j + 1 + m + 1 by omega] at this
      exact this) h1 fun ρ s h => k ρ s (by rw [List.length_cons, show j + (ds.length + 1) = j + 1 + ds.length by omega]; exact h)
end
end PL

set_option linter.all false
set_option maxRecDepth 100000
/-! PW5: isinstance, is None, by kinds. -/
namespace PL
open PySem PySem.Spec L2
theorem k_ifnF {P1 P2 : Prop} (k : P1) : IfK P1 P2 (!false) := ⟨fun _ => k, fun e => (nomatch e)⟩
theorem k_ifnT {P1 P2 : Prop} (k : P2) : IfK P1 P2 (!true) := ⟨fun e => (nomatch e), fun _ => k⟩
theorem small0 {n : Nat} (h : n ≤ 1000000) : n ≤ sizeLine := Nat.le_trans h (by decide)
theorem w_rangeN {n : Nat} {A : List D → Sto → Prop} {st : Sto} (h : n ≤ 1000000) (k : A ((List.range n).map fun (i : Nat) => D.int i) st) : wp (rangeL 0 (n : Int)) A st := by
  have h1 : (n : Int).toNat = n := Int.toNat_natCast n
  have h0 : (0 : Int) ≤ n := Int.natCast_nonneg n
  have h2 : (n : Int) ≤ 1000000 := by omega
  generalize (n : Int) = z at h1 h0 h2 ⊢
  refine w_range ?_ ?_ ?_ ?_
  · omega
  · omega
  · rw [h1]; exact small0 h
  · rw [h1]; exact k
theorem w_isi {R : D → Sto → Prop} {st : Sto} {T : String} {d : D} {t : String} {b : Bool} (h : tyN d = some t) (hb : kitB t T = some b) (k : R (.bl b) st) : wp (isiM T d) R st := by
  unfold isiM; rw [h]
  show wp (match kitB t T with | some b => PL.bl b | none => M.bad) R st
  rw [hb]; exact ⟨k⟩
theorem i_tuple_NoneType {R : D → Sto → Prop} {st : Sto} (k : R (.bl false) st) : wp (isiM "tuple" .non) R st := w_isi (t := "NoneType") (b := false) rfl (by decide +kernel) k
theorem i_tuple_bool {x : Bool} {R : D → Sto → Prop} {st : Sto} (k : R (.bl false) st) : wp (isiM "tuple" (.bl x)) R st := w_isi (t := "bool") (b := false) rfl (by decide +kernel) k
theorem i_tuple_int {x : Int} {R : D → Sto → Prop} {st : Sto} (k : R (.bl false) st) : wp (isiM "tuple" (.int x)) R st := w_isi (t := "int") (b := false) rfl (by decide +kernel) k
theorem i_tuple_str {x : Str} {R : D → Sto → Prop} {st : Sto} (k : R (.bl false) st) : wp (isiM "tuple" (.str x)) R st := w_isi (t := "str") (b := false) rfl (by decide +kernel) k
theorem i_tuple_tuple {x : List D} {R : D → Sto → Prop} {st : Sto} (k : R (.bl true) st) : wp (isiM "tuple" (.tup x)) R st := w_isi (t := "tuple") (b := true) rfl (by decide +kernel) k
theorem i_tuple_list {x : List D} {R : D → Sto → Prop} {st : Sto} (k : R (.bl false) st) : wp (isiM "tuple" (.lst x)) R st := w_isi (t := "list") (b := false) rfl (by decide +kernel) k
theorem i_str_NoneType {R : D → Sto → Prop} {st : Sto} (k : R (.bl false) st) : wp (isiM "str" .non) R st := w_isi (t := "NoneType") (b := false) rfl (by decide +kernel) k
theorem i_str_bool {x : Bool} {R : D → Sto → Prop} {st : Sto} (k : R (.bl false) st) : wp (isiM "str" (.bl x)) R st := w_isi (t := "bool") (b := false) rfl (by decide +kernel) k
theorem i_str_int {x : Int} {R : D → Sto → Prop} {st : Sto} (k : R (.bl false) st) : wp (isiM "str" (.int x)) R st := w_isi (t := "int") (b := false) rfl (by decide +kernel) k
theorem i_str_str {x : Str} {R : D → Sto → Prop} {st : Sto} (k : R (.bl true) st) : wp (isiM "str" (.str x)) R st := w_isi (t := "str") (b := true) rfl (by decide +kernel) k
theorem i_str_tuple {x : List D} {R : D → Sto → Prop} {st : Sto} (k : R (.bl false) st) : wp (isiM "str" (.tup x)) R st := w_isi (t := "tuple") (b := false) rfl (by decide +kernel) k
theorem i_str_list {x : List D} {R : D → Sto → Prop} {st : Sto} (k : R (.bl false) st) : wp (isiM "str" (.lst x)) R st := w_isi (t := "list") (b := false) rfl (by decide +kernel) k
theorem i_int_NoneType {R : D → Sto → Prop} {st : Sto} (k : R (.bl false) st) : wp (isiM "int" .non) R st := w_isi (t := "NoneType") (b := false) rfl (by decide +kernel) k
theorem i_int_bool {x : Bool} {R : D → Sto → Prop} {st : Sto} (k : R (.bl true) st) : wp (isiM "int" (.bl x)) R st := w_isi (t := "bool") (b := true) rfl (by decide +kernel) k
theorem i_int_int {x : Int} {R : D → Sto → Prop} {st : Sto} (k : R (.bl true) st) : wp (isiM "int" (.int x)) R st := w_isi (t := "int") (b := true) rfl (by decide +kernel) k
theorem i_int_str {x : Str} {R : D → Sto → Prop} {st : Sto} (k : R (.bl false) st) : wp (isiM "int" (.str x)) R st := w_isi (t := "str") (b := false) rfl (by decide +kernel) k
theorem i_int_tuple {x : List D} {R : D → Sto → Prop} {st : Sto} (k : R (.bl false) st) : wp (isiM "int" (.tup x)) R st := w_isi (t := "tuple") (b := false) rfl (by decide +kernel) k
theorem i_int_list {x : List D} {R : D → Sto → Prop} {st : Sto} (k : R (.bl false) st) : wp (isiM "int" (.lst x)) R st := w_isi (t := "list") (b := false) rfl (by decide +kernel) k
theorem i_bool_NoneType {R : D → Sto → Prop} {st : Sto} (k : R (.bl false) st) : wp (isiM "bool" .non) R st := w_isi (t := "NoneType") (b := false) rfl (by decide +kernel) k
theorem i_bool_bool {x : Bool} {R : D → Sto → Prop} {st : Sto} (k : R (.bl true) st) : wp (isiM "bool" (.bl x)) R st := w_isi (t := "bool") (b := true) rfl (by decide +kernel) k
theorem i_bool_int {x : Int} {R : D → Sto → Prop} {st : Sto} (k : R (.bl false) st) : wp (isiM "bool" (.int x)) R st := w_isi (t := "int") (b := false) rfl (by decide +kernel) k
theorem i_bool_str {x : Str} {R : D → Sto → Prop} {st : Sto} (k : R (.bl false) st) : wp (isiM "bool" (.str x)) R st := w_isi (t := "str") (b := false) rfl (by decide +kernel) k
theorem i_bool_tuple {x : List D} {R : D → Sto → Prop} {st : Sto} (k : R (.bl false) st) : wp (isiM "bool" (.tup x)) R st := w_isi (t := "tuple") (b := false) rfl (by decide +kernel) k
theorem i_bool_list {x : List D} {R : D → Sto → Prop} {st : Sto} (k : R (.bl false) st) : wp (isiM "bool" (.lst x)) R st := w_isi (t := "list") (b := false) rfl (by decide +kernel) k
theorem i_list_NoneType {R : D → Sto → Prop} {st : Sto} (k : R (.bl false) st) : wp (isiM "list" .non) R st := w_isi (t := "NoneType") (b := false) rfl (by decide +kernel) k
theorem i_list_bool {x : Bool} {R : D → Sto → Prop} {st : Sto} (k : R (.bl false) st) : wp (isiM "list" (.bl x)) R st := w_isi (t := "bool") (b := false) rfl (by decide +kernel) k
theorem i_list_int {x : Int} {R : D → Sto → Prop} {st : Sto} (k : R (.bl false) st) : wp (isiM "list" (.int x)) R st := w_isi (t := "int") (b := false) rfl (by decide +kernel) k
theorem i_list_str {x : Str} {R : D → Sto → Prop} {st : Sto} (k : R (.bl false) st) : wp (isiM "list" (.str x)) R st := w_isi (t := "str") (b := false) rfl (by decide +kernel) k
theorem i_list_tuple {x : List D} {R : D → Sto → Prop} {st : Sto} (k : R (.bl false) st) : wp (isiM "list" (.tup x)) R st := w_isi (t := "tuple") (b := false) rfl (by decide +kernel) k
theorem i_list_list {x : List D} {R : D → Sto → Prop} {st : Sto} (k : R (.bl true) st) : wp (isiM "list" (.lst x)) R st := w_isi (t := "list") (b := true) rfl (by decide +kernel) k
theorem n_is_NoneType {R : D → Sto → Prop} {st : Sto} (k : R (.bl true) st) : wp (isNM .non) R st := by first | exact k | exact ⟨k⟩
theorem n_not_NoneType {R : D → Sto → Prop} {st : Sto} (k : R (.bl false) st) : wp (notNM .non) R st := by first | exact k | exact ⟨k⟩
theorem n_is_bool {x : Bool} {R : D → Sto → Prop} {st : Sto} (k : R (.bl false) st) : wp (isNM (.bl x)) R st := by first | exact k | exact ⟨k⟩
theorem n_not_bool {x : Bool} {R : D → Sto → Prop} {st : Sto} (k : R (.bl true) st) : wp (notNM (.bl x)) R st := by first | exact k | exact ⟨k⟩
theorem n_is_int {x : Int} {R : D → Sto → Prop} {st : Sto} (k : R (.bl false) st) : wp (isNM (.int x)) R st := by first | exact k | exact ⟨k⟩
theorem n_not_int {x : Int} {R : D → Sto → Prop} {st : Sto} (k : R (.bl true) st) : wp (notNM (.int x)) R st := by first | exact k | exact ⟨k⟩
theorem n_is_str {x : Str} {R : D → Sto → Prop} {st : Sto} (k : R (.bl false) st) : wp (isNM (.str x)) R st := by first | exact k | exact ⟨k⟩
theorem n_not_str {x : Str} {R : D → Sto → Prop} {st : Sto} (k : R (.bl true) st) : wp (notNM (.str x)) R st := by first | exact k | exact ⟨k⟩
theorem n_is_tuple {x : List D} {R : D → Sto → Prop} {st : Sto} (k : R (.bl false) st) : wp (isNM (.tup x)) R st := by first | exact k | exact ⟨k⟩
theorem n_not_tuple {x : List D} {R : D → Sto → Prop} {st : Sto} (k : R (.bl true) st) : wp (notNM (.tup x)) R st := by first | exact k | exact ⟨k⟩
theorem n_is_list {x : List D} {R : D → Sto → Prop} {st : Sto} (k : R (.bl false) st) : wp (isNM (.lst x)) R st := by first | exact k | exact ⟨k⟩
theorem n_not_list {x : List D} {R : D → Sto → Prop} {st : Sto} (k : R (.bl true) st) : wp (notNM (.lst x)) R st := by first | exact k | exact ⟨k⟩
end PL

set_option linter.all false
set_option maxRecDepth 100000
set_option maxHeartbeats 4000000
/-! PL16: own exceptions with two fields are raised. -/
namespace PL
open PySem PySem.Spec L2
variable {wW : World}
/-- what an __init__ that keeps two fields does -/
def spXi (C : Addr) (f g : Str) : Sp := fun vs H Q _ => ∃ a y z, vs = [.ref a, y, z] ∧ H a = some (exo a C none) ∧ ∀ d, H d = none → d ≠ a → Q .non (upd (upd (upd H d (exd d [(f, y)])) a (exo a C (some d))) d (exd d [(g, z), (f, y)]))
/-- an own exception class x with the fields f and g -/
structure Xc (P : Program) (w : World) (K : PySem.W.Frag) (mg : Str → Option Value) (base : Heap) (x f g : Str) : Prop where
  ex : ∃ C fI fd, OexC K C ∧ PySem.W.findIn K (.ref C) "__init__" = some (some (.ref fI)) ∧ PySem.W.typeIn K (.ref fI) = some (.type "function") ∧ FnOk P w K mg base (L2.CX P w) 1 fI fd ["self", f, g] (spXi C f g) ∧ mg x = some (.ref C) ∧ Binds K fd ["self", f, g] [] ∧
    XfC K C ∧ PySem.W.findIn K (.ref C) f = some none ∧ PySem.W.findIn K (.ref C) g = some none ∧ PySem.W.exmOne K (.ref C) (.ref C) = some true
section
variable {P : Program} {w : World} {K : PySem.W.Frag} {mg : Str → Option Value} {base : Heap}
theorem init_two {qual f g : Str} {st : Stmt} {C fI : Addr} {fd : FuncData} {p1 p2 p3 p4 p5 p6 p7 p8 : Pos} (F : Fun K "__init__" qual st fI fd) (S : FnScope ["self", f, g] ["self", f, g] (defScope st)) (T : OexC K C) (hf : PySem.W.findIn K (.ref C) f = some none) (hg : PySem.W.findIn K (.ref C) g = some none)
    (hb : defBody st = [.Assign [.Attribute (.Name "self" p1) f p2] (.Name f p3) p4, .Assign [.Attribute (.Name "self" p5) g p6] (.Name g p7) p8])
    (vs : Vis (defScope st) "self") (vf : Vis (defScope st) f) (vg : Vis (defScope st) g) (df : (f == ("__debug__" : Str)) = false) (dg : (g == ("__debug__" : Str)) = false) (cf : (f == ("__classdict__" : Str)) = false) (cg : (g == ("__classdict__" : Str)) = false) :
    FnOk P w K mg base (L2.CX P w) 1 fI fd ["self", f, g] (spXi C f g) := by
  refine F.okX S (fun vs H Q E h => ?_) (fun cdv A outer s H vs0 Q E hr h => ?_)
  · obtain ⟨a, y, z, rfl, _⟩ := h; rfl
  · obtain ⟨a, y, z, rfl, ha, q⟩ := h
    rw [hb]
    refine ⟨_, pss_cons (ps_ost (pe_var (i := 0) rfl vs) (pe_var (i := 1) rfl vf df cf)) (pss_one (ps_ost (pe_var (i := 0) rfl vs) (pe_var (i := 2) rfl vg dg cg))), ?_⟩
    refine ⟨y, rfl, .ref a, rfl, a, C, rfl, T, hf, .inl ⟨ha, fun d hd hne => ?_⟩⟩
    refine ⟨z, rfl, .ref a, rfl, a, C, rfl, T, hg, .inr ⟨d, [(f, y)], upd_same, ?_, by simp, ?_⟩⟩
    · rw [upd_ne hne, upd_same]
    · exact q d hd hne
end
def sRaise (x f g : Str) (ga : En → M (List D)) : En → M (Fl × En) := fun ρ => (ga ρ).bind fun ds => match ds with
  | [a, b] => M.raise ⟨x, [(g, b), (f, a)]⟩
  | _ => M.bad
section
variable {X : Cx} {E : XK} {Φ : Ent} {ga : En → M (List D)} {e1 e2 : Expr}
theorem js_raise {x f g : Str} {p pos rpos : Pos} (hc : X.calm = true) (tk : Takes X fun cls d _ H => E cls d H) (C : Xc X.prog X.w X.K X.mg X.base x f g) (hr : Room 2 X.A) (ha : JA X E Φ.H ga [e1, e2]) (hg : Gl X x := by rfl) (hdb : (x == ("__debug__" : Str)) = false := by decide)
    (he : starEach [e1, e2] X.env = (false, eval e1 X.env) :: starEach [e2] X.env := by rfl) (hpl : (backTo pos (starEach [e2] X.env)).any (·.1) = false := by rfl) : JS X E Φ (sRaise x f g ga) (.Raise (some (.Call (.Name x p) [e1, e2] [] pos)) none rpos) := by
  obtain ⟨C, fI, fd, T, iC, tI, F1, hm, hb, _⟩ := C.ex
  refine PS.imp (ps_raise hc tk (pmk_oex T iC tI F1 hr hb .nil px hg hm ha hdb he hpl)) fun Dn σ H ⟨G, μ, st, ρ, w, er, s, p⟩ => ?_
  refine ⟨G, μ, st, ρ, w, er, p.bind s fun ds st1 vs H1 G1 μ1 w1 s1 t1 r1 q1 => ?_⟩
  match ds, vs, r1, q1 with
  | [a, b], [va, vb], .cons ra (.cons rb .nil), q1 =>
    refine ⟨by simp, fun i hi => ⟨i, va, vb, rfl, upd_same, fun d hd hne => ⟨rfl, d, _, ?_, upd_same, ?_, ?_⟩⟩⟩
    · rw [upd_ne (Ne.symm hne), upd_same]
    · rw [upd_ne hne] at hd; exact hd
    · rw [upd_ne hne] at hd
      have e : upd (del (upd (upd (upd (upd H1 i (exo i C none)) d (exd d [(f, va)])) i (exo i C (some d))) d (exd d [(g, vb), (f, va)])) i) d (.xd [(g, vb), (f, va)]) = upd H1 d (.xd [(g, vb), (f, va)]) := by
        funext b
        by_cases h1 : b = d
        · rw [h1, upd_same, upd_same]
        · rw [upd_ne h1, upd_ne h1]
          by_cases h2 : b = i
          · rw [h2, del_same, hi]
          · rw [del_ne h2, upd_ne h1, upd_ne h2, upd_ne h1, upd_ne h2]
      rw [e]
      obtain ⟨w2, s2⟩ := w1.lay (o := .xd [(g, vb), (f, va)]) hd
      exact q1 _ _ _ _ _ w2 (t1.trans s2) ⟨hm, d, _, rfl, upd_same, rfl, .cons rb (.cons ra .nil)⟩
  | [], _, _, q1 => exact q1.elim
  | [_], _, _, q1 => exact q1.elim
  | _ :: _ :: _ :: _, _, _, q1 => exact q1.elim
end
end PL

set_option linter.all false
set_option maxRecDepth 100000
set_option maxHeartbeats 4000000
/-! PL17: what a def hears of a lambda without parameters: ("gave", what it gives), or the fields of the one exception that is caught. -/
namespace PL
open PySem PySem.Spec L2 LamX PyProof.Rows
variable {wW : World}
abbrev lamQ (X : Cx) : Str := X.env.qual ++ "<lambda>"
/-- the lambda's def f with its code at k: all that is known of it in the heap H of s -/
structure Lam (X : Cx) (pins : List (Addr × Obj)) (σ : L2.St) (params : Arguments) (body : Expr) (scope : Scope) (f k : Addr) (pm tv : Value) (H : Hp) (s : Shared) : Prop where
  inv : Inv X pins σ H s
  at_ : s.heap.get? f = some (PySem.W.kla_obj "<lambda>" (lamQ X) params body scope (cloFrom X.env.cells scope.names []) pm k tv)
  new : H f = none
  out : f ∉ frs X.stack
  code : H k = some (CodeO k (lamQ X))
section
variable {X : Cx} {pins : List (Addr × Obj)} {σ : L2.St} {H : Hp} {s : Shared} {params : Arguments} {body : Expr} {scope : Scope}
theorem out_new (I : Inv X pins σ H s) {f : Addr} (hf : s.heap.objs.size ≤ f) : f ∉ frs X.stack := fun z => by
  rcases List.mem_cons.mp (I.stkSub _ z) with rfl | e
  · exact Nat.lt_irrefl _ (Nat.lt_of_lt_of_le I.lt hf)
  · exact I.nofs hf e
theorem lam_eval {c P : Addr} {ps : Array Value} {pos : Pos} {E Q : Value → Shared → Prop} (I : Inv X pins σ H s) (TB : TabB X.base X.mg c P) (hc : X.env.code = .ref c) (hP : H P = some (.tbl ps)) (ht : TriplesOk ps.toList)
    (ha : ∀ (q : Pos) (cv : Value), codeAmong q ps.toList = some cv → ∃ k, cv = .ref k ∧ H k = some (CodeO k (lamQ X))) (hd : defaultsOf params X.env = ([], [])) (hfree : ∀ y ∈ scope.names, y.2 = .free → ∃ c, X.env.cells.lookup y.1 = some c)
    (old : ∀ f k pm tv s', Lam X pins σ params body scope f k pm tv H s' → Q (.ref f) s')
    (new : ∀ f k pm tv s' (qs : Array Value), H k = none → TriplesOk qs.toList → (∀ (q : Pos) (cv : Value), codeAmong q qs.toList = some cv → cv = .ref k ∨ codeAmong q ps.toList = some cv) → Lam X pins σ params body scope f k pm tv (upd (upd H P (.tbl qs)) k (CodeO k (lamQ X))) s' → Q (.ref f) s') :
    wpAny (model X.prog X.w) X.A (eval (.Lambda params body scope pos) X.env) Q E s := by
  have hb := TB.bm.keeps I.bk
  have hcd := TB.code.keeps I.bk
  have hPs : s.heap.get? P = some { cls := .none, data := .fields ps } := I.hok P _ hP
  refine PySem.W.kla_eval hd ?_
  rcases hh : codeAmong pos ps.toList with _ | cv
  · refine PySem.W.kla_makeFunction (mg := X.mg) (c := c) (P := P) (ps := ps) (closure_ok hfree) I.ok.glob (I.mod.glob.keeps I.bk) hc hcd hPs ht hh TB.gP hb fun k tv h' tk hx hge hlt hrec htb => ?_
    obtain ⟨_, oc, vs, t, e2, hoc, hdd, hv⟩ := hrec
    cases e2
    have hsz := Nat.le_trans hge (Nat.le_of_lt hlt)
    have J := inv_table (t' := tk) (more := #[rawInt pos.line, rawInt pos.col, .ref k]) (h' := h'.push (PySem.W.kla_obj "<lambda>" (lamQ X) params body scope (cloFrom X.env.cells scope.names []) ((X.mg "__name__").getD .none) k tv)) I hP
      (fun b o n e => Heap.get?_push_of_some _ (hx b o n e)) (Heap.get?_push_of_some _ htb) hge ⟨oc, vs, t, Heap.get?_push_of_some _ hoc, hdd, hv⟩
    have e3 : (ps ++ #[rawInt pos.line, rawInt pos.col, .ref k]).toList = ps.toList ++ [rawInt pos.line, rawInt pos.col, .ref k] := by simp
    refine new h'.objs.size k _ tv _ _ (I.hok.fresh hge) (by rw [e3]; exact PySem.TriplesOk_snoc _ _ _ _ ht) (fun q cv hcv => ?_) ⟨J, Heap.get?_push_size _ rfl, ?_, out_new I hsz, upd_same⟩
    · rw [e3] at hcv
      exact (among_app _ ht hcv).symm
    · rw [upd_ne (Nat.ne_of_gt hlt), upd_ne (Nat.ne_of_gt (Nat.lt_of_lt_of_le (Heap.lt_size hPs) hsz))]
      exact I.hok.fresh hsz
  · obtain ⟨k, rfl, hk⟩ := ha pos cv hh
    refine PySem.W.kla_makeFunctionHit (mg := X.mg) (c := c) (P := P) (ps := ps) (closure_ok hfree) I.ok.glob (I.mod.glob.keeps I.bk) hc hcd hPs ht hh hb fun tv h' tk hx hsz => ?_
    exact old h'.objs.size k _ tv _ ⟨I.kept fun b o e => Heap.get?_push_of_some _ (hx b o e), Heap.get?_push_size _ rfl, I.hok.fresh hsz, out_new I hsz, hk⟩
end
/-- the reading of x(lambda: body): TT is what x makes of the lambda's reading t -/
def tLamH (P : Addr) (q : Str) (TT : (XK → Hp → VK → Prop) → Hp → VK → Prop) (t : XK → TE) : TE := fun σ H Q => ∃ ps : Array Value, H P = some (.tbl ps) ∧ TriplesOk ps.toList ∧ (∀ (z : Pos) (cv : Value), codeAmong z ps.toList = some cv → ∃ k, cv = .ref k ∧ H k = some (CodeO k q)) ∧
  TT (fun E H' Q' => t E σ H' Q') H Q ∧ ∀ (k : Addr) (qs : Array Value), H k = none → TriplesOk qs.toList → (∀ (z : Pos) (cv : Value), codeAmong z qs.toList = some cv → cv = .ref k ∨ codeAmong z ps.toList = some cv) → TT (fun E H' Q' => t E σ H' Q') (upd (upd H P (.tbl qs)) k (CodeO k q)) Q
/-- a def x of one parameter a that hears what it is given; TT: what it makes of it -/
structure Hears (P : Program) (w : World) (K : PySem.W.Frag) (mg : Str → Option Value) (x a : Str) (TT : (XK → Hp → VK → Prop) → Hp → VK → Prop) : Prop where
  ex : ∃ (g : Addr) (pg : Arguments) (bg : List Stmt) (sg : Scope) (dV kV doc pm cdv ct oc : Value) (an od : Option Addr) (osl : Array (Option Value)) (Ng : List Str), mg x = some (.ref g) ∧ PySem.W.keepIn K (.ref g) = true ∧ K.lookup g = some ⟨oc, od, .func (PySem.W.fnOf x x pg bg sg dV kV doc pm an cdv ct), osl⟩ ∧ PySem.W.codeIn K cdv x = true ∧
    Binds K (PySem.W.fnOf x x pg bg sg dV kV doc pm an cdv ct) [a] [] ∧ FnScope Ng [a] sg ∧ Ng[0]? = some a ∧ Vis sg a ∧ ∀ (X : Cx) (q : Str), X.prog = P → X.w = w → X.K = K → X.mg = mg → GivesTo X Ng x sg g cdv bg a q TT
section
variable {X : Cx}
theorem pe_lamH {TT : (XK → Hp → VK → Prop) → Hp → VK → Prop} {x a : Str} {c P : Addr} {k : Nat} {params : Arguments} {body : Expr} {scope : Scope} {t : XK → TE} {p lpos pos : Pos} (R : Hears X.prog X.w X.K X.mg x a TT) (hg : Gl X x) (TB : TabB X.base X.mg c P) (hc : X.env.code = .ref c) (hr : Room (k + 2) X.A)
    (L : LamS X.env.scope scope) (hdef : defaultsOf params X.env = ([], [])) (hbind : ∀ (q : Str) (cl : List (Str × Addr)) (pm cv tv : Value), bindArgs (PySem.W.kla_fn "<lambda>" q params body scope cl pm cv tv) ⟨[], []⟩ = pure [])
    (hbody : ∀ (A : Around) (outer : List Env) (s : Shared) (H : Hp) (E : XK) (f c' : Addr), Room k (A.deeper (lamEnv X scope s.heap.objs.size f c')) → PE (lamCx X A outer s H E scope f c') body (t E))
    (hdb : (x == ("__debug__" : Str)) = false := by decide) (hd : (a == ("__debug__" : Str)) = false := by decide) (hcd : (a == ("__classdict__" : Str)) = false := by decide) :
    PE X (.Call (.Name x p) [.Lambda params body scope lpos] [] pos) (tLamH P (lamQ X) TT t) := by
  obtain ⟨g, pg, bg, sg, dV, kV, doc, pm, cdv, ct, oc, an, od, osl, Ng, hm, hk, lk, hcg, hb, Sg, hNg, hva, hG⟩ := R.ex
  refine ⟨fun pins s σ H Q I h => ?_⟩
  obtain ⟨ps, hP, ht, ha, h0, h1⟩ := h
  have go : ∀ (f k' : Addr) (pm' tv : Value) (H1 : Hp) (s' : Shared), Lam X pins σ params body scope f k' pm' tv H1 s' → TT (fun E H' Q' => t E σ H' Q') H1 Q → X.K.In s'.heap ∧ wpAny (model X.prog X.w) X.A (call (.ref g) [.ref f]) (CE X.stack X.prog X.w H1 s' Q) X.xe s' := fun f k' pm' tv H1 s' l q => by
    refine ⟨l.inv.kIn, ?_⟩
    have rc : codeAny (model X.prog X.w) X.A (.call (.ref g) ⟨[.ref f], []⟩) (CR C8.CX0 X.stack X.prog X.w H1 s' Q C8.E0) s' := by
      refine run_ofS (N := Ng) (ps := [a]) (us := [.ref f]) (vs := [.ref f]) lk hcg Sg hr l.inv.env0 (hb s' [.ref f] l.inv.kIn rfl) (.cons rfl .nil) rfl fun hr' => ?_
      obtain ⟨u, hu, hq⟩ := hG X (lamQ X) rfl rfl rfl rfl f k' s' H1 Q (fun E H' Q' => t E σ H' Q') (fun W pn xe E p1 p2 tk hW => pe_act (i := 0) l.inv L l.at_ l.new l.out (hbind _ _ _ _ _) tk hW hr' (fun A outer s H hr2 => hbody A outer s H E f k' hr2) hNg hva hd hcd) l.code q
      exact ⟨u, hu.nox, hq⟩
    refine wpAny_call (codeAny_mono rc fun r s2 hq => ?_)
    cases r with
    | error e => exact (show False from hq).elim
    | ok fl =>
      cases fl with
      | ret u => exact hq
      | next => exact False.elim hq
      | brk => exact False.elim hq
      | cont => exact False.elim hq
  refine wpAny_Call_Name_kw (ld_glob I hg hm ?_ hdb)
  refine PySem.W.callWith_K (h₀ := X.base) I.ok.mod.kin hk ?_ (by rfl) (by rfl)
  show wpAny _ _ (spliced ((false, eval (.Lambda params body scope lpos) X.env) :: backTo pos (starEach [] X.env))) _ _ s
  refine Calls.spliced_cons (lam_eval I TB hc hP ht ha hdef (L.has I.ok) (fun f k' pm' tv s' l => ?_) fun f k' pm' tv s' qs e1 e2 e3 l => ?_)
  · obtain ⟨r1, r2⟩ := go f k' pm' tv _ s' l h0
    exact Calls.spliced_nil ⟨r1, wpAny_mono r2 (fun u s2 hq => l.inv.after hq) fun _ _ z => z⟩
  · obtain ⟨r1, r2⟩ := go f k' pm' tv _ s' l (h1 k' qs e1 e2 e3)
    exact Calls.spliced_nil ⟨r1, wpAny_mono r2 (fun u s2 hq => l.inv.after hq) fun _ _ z => z⟩
end
end PL

set_option linter.all false
set_option maxRecDepth 100000
set_option maxHeartbeats 4000000
/-! PL18: try: return ("gave", ask()) / except x as e: return (x, e.f, e.g), and what is heard so. -/
namespace PL
open PySem PySem.Spec L2 LamX PyProof.Rows
variable {wW : World}
theorem Takes.len {X : Cx} {W : WX} (t : Takes X W) : Takes X (fun cls d σ H => σ.length = X.N.length → W cls d σ H) := fun u s' ⟨a, B, sI, pins, σ, H, cls, d, e, I, nb, up, sky, na, os, ag, w⟩ =>
  t u s' ⟨a, B, sI, pins, σ, H, cls, d, e, I, nb, up, sky, na, os, ag, w I.len⟩
/-- what the caught fields give: ret, e.f, e.g -/
def kCaught (CS : Addr) (ret f g : Str) (Q : VK) : XK := fun cls d H' => cls = .ref CS ∧ ∃ dd fs v1 v2, d = some dd ∧ H' dd = some (.xd fs) ∧ fs.lookup f = some v1 ∧ fs.lookup g = some v2 ∧ ∀ p, H' p = none → Q (.ref p) (upd H' p (.tup [.str ret, v1, v2]))
def kGave (Q : VK) : VK := fun v H' => ∀ p, H' p = none → Q (.ref p) (upd H' p (.tup [.str "gave", v]))
def tHear (CS : Addr) (ret f g : Str) : (XK → Hp → VK → Prop) → Hp → VK → Prop := fun tl H Q => tl (kCaught CS ret f g Q) H (kGave Q)
section
variable {X : Cx}
theorem hear_gives {x a e q ret cx f g : Str} {sg : Scope} {gd CS : Addr} {cdg : Value} {j j2 k1 k2 : Nat} {p1 p2 p3 p4 p5 p6 p7 p8 p9 p10 p11 p12 p13 p14 p15 : Pos} (T : XfC X.K CS) (hf : PySem.W.findIn X.K (.ref CS) f = some none) (hg : PySem.W.findIn X.K (.ref CS) g = some none) (hx : PySem.W.exmOne X.K (.ref CS) (.ref CS) = some true)
    (hge : sg.names.lookup cx = some .globalImplicit) (hme : X.mg cx = some (.ref CS)) (hde : (cx == ("__debug__" : Str)) = false) (hne : ([a, e] : List Str).Nodup) (hle : sg.names.lookup e = some .local) (hee : (e == ("__debug__" : Str)) = false) (hec : (e == ("__classdict__" : Str)) = false) :
    GivesTo X [a, e] x sg gd cdg [.Try [.Return (some (.Tuple [.Constant (.str "gave") j p5, .Call (.Name a p1) [] [] p2] k1 p6)) p3]
      [.ExceptHandler (some (.Name cx p4)) (some e) [.Return (some (.Tuple [.Constant (.str ret) j2 p9, .Attribute (.Name e p10) f p11, .Attribute (.Name e p12) g p13] k2 p14)) p15] p7] [] [] p8] a q (tHear CS ret f g) := by
  intro f0 c' s H Q tl act hc h
  have hgl : Gl (cxOf C8.CX0 X.prog X.w X.K X.mg X.base [a, e] x sg gd cdg X.A X.stack s H C8.E0).nox cx := hge
  refine ⟨_, pss_one (ps_try_as (X := (cxOf C8.CX0 X.prog X.w X.K X.mg X.base [a, e] x sg gd cdg X.A X.stack s H C8.E0).nox) (c := .ref CS) (i := 1)
      (tb := fun W D σ H => ∃ Ech : XK, (∀ cls d σ' H', Ech cls d H' → σ'.length = 2 → W cls d σ' H') ∧ σ[0]? = some (some (.ref f0)) ∧ H c' = some (CodeO c' q) ∧ tl Ech H (kGave D.rt))
      rfl rfl hne rfl hle ⟨hgl, hde, .inl hme⟩ L2.takes0 (fun W pn xe tk _ => ?_) fun b oe cls d pn hz hfd => pss_one (ps_ret (pe_tup (pa_cons pe_str (pa_cons (pe_xf T hf hz hfd (pe_var (i := 1) rfl (.inl hle) hee hec)) (pa_cons (pe_xf T hg hz hfd (pe_var (i := 1) rfl (.inl hle) hee hec)) pa_nil)))))), ?_⟩
  · refine ⟨fun pins s' σ H' D I h' => ?_⟩
    obtain ⟨Ech, hW, h1, h2, h3⟩ := h'
    have hp := act (fun cls d σ H => σ.length = 2 → W cls d σ H) pn xe Ech p1 p2 (Takes.len tk) (fun cls d σ' H' e => hW cls d σ' H' e)
    refine (pss_one (ps_ret (pos := p3) (pe_tup (x1 := k1) (pos := p6) (pa_cons pe_str (pa_cons hp pa_nil))))).run pins s' σ H' D I ?_
    refine ⟨h1, h2, ?_⟩
    have e : (kGave D.rt) = fun x H1 => ([.str "gave", x] : List V).length ≤ sizeLine ∧ ∀ p, H1 p = none → D.rt (.ref p) (upd H1 p (.tup [.str "gave", x])) := by
      funext x H1
      exact propext ⟨fun z => ⟨by show 2 ≤ sizeLine; decide, z⟩, fun z => z.2⟩
    rw [e] at h3
    exact h3
  · refine ⟨kCaught CS ret f g Q, fun cls d σ' H' hk hl => ?_, rfl, hc, h⟩
    obtain ⟨rfl, dd, fs, v1, v2, rfl, h1, h2, h3, h4⟩ := hk
    refine ⟨true, hx, fun _ b hb => ?_, fun z => nomatch z⟩
    have es : (σ'.set 1 (some (V.ref b)))[1]? = some (some (V.ref b)) := List.getElem?_set_self (by omega)
    refine ⟨.ref b, es, rfl, rfl, dd, fs, v1, rfl, h1, h2, ?_⟩
    refine ⟨.ref b, es, rfl, rfl, dd, fs, v2, rfl, h1, h3, ?_⟩
    exact ⟨by show 3 ≤ sizeLine; decide, h4⟩
def tabIs (P : Addr) (q : Str) : Ob → Bool
  | .tab P' q' => decide (P' = P ∧ q' = q)
  | _ => false
/-- what the law's own def hears -/
def eHear (P : Addr) (q x f g : Str) (b : En → M D) : En → M D := fun ρ st => if st.any (tabIs P q) = true then match b ρ st with
  | .ok d st' => .ok (.tup [.str "gave", d]) st'
  | .err ⟨c, fs⟩ st' => match fs with
    | [(g', v2), (f', v1)] => if c = x ∧ g' = g ∧ f' = f ∧ f ≠ g then .ok (.tup [.str x, v1, v2]) st' else .bad
    | _ => .bad
  | .bad => .bad
  else .bad
def lq (x : Str) : Str := x ++ ".<locals>." ++ "<lambda>"
theorem lamQ_cx {CX : CXT} {P : Program} {w : World} {K : PySem.W.Frag} {mg : Str → Option Value} {base : Heap} {N : List Str} {x : Str} {sc : Scope} {f : Addr} {cdv : Value} {A : Around} {outer : List Env} {s : Shared} {H : Hp} {E : XK} : lamQ (cxOf CX P w K mg base N x sc f cdv A outer s H E) = lq x := rfl
theorem je_hear {P c : Addr} {qq x a cx f g : Str} {k : Nat} {CS : Addr} {params : Arguments} {body : Expr} {scope : Scope} {p lpos pos : Pos} {E : XK} {H0 : Hp} {b : En → M D} (R : Hears X.prog X.w X.K X.mg x a (tHear CS cx f g)) (hmx : X.mg cx = some (.ref CS)) (TB : TabB X.base X.mg c P) (hc : X.env.code = .ref c) (hr : Room (k + 2) X.A)
    (hbody : ∀ (A : Around) (outer : List Env) (s : Shared) (H : Hp) (E : XK) (f c' : Addr), Room k (A.deeper (lamEnv X scope s.heap.objs.size f c')) → JE (lamCx X A outer s H E scope f c') E H0 b body)
    (L : LamS X.env.scope scope) (hq : lamQ X = qq) (hg : Gl X x := by rfl) (hdef : defaultsOf params X.env = ([], []) := by rfl) (hbind : ∀ (q : Str) (cl : List (Str × Addr)) (pm cv tv : Value), bindArgs (PySem.W.kla_fn "<lambda>" q params body scope cl pm cv tv) ⟨[], []⟩ = pure [] := by intros; rfl)
    (hdb : (x == ("__debug__" : Str)) = false := by decide) (hd : (a == ("__debug__" : Str)) = false := by decide) (hcd : (a == ("__classdict__" : Str)) = false := by decide) :
    JE X E H0 (eHear P qq cx f g b) (.Call (.Name x p) [.Lambda params body scope lpos] [] pos) := by
  subst hq
  refine PE.imp (pe_lamH (t := fun E' => Se X E' H0 (rRep X.K) b) R hg TB hc hr L hdef hbind (fun A outer s H E' f c' hr => hbody A outer s H E' f c' hr) hdb hd hcd) fun σ H Q ⟨G, μ, st, ρ, w, er, q⟩ => ?_
  unfold eHear at q
  by_cases ht : st.any (tabIs P (lamQ X)) = true
  · rw [if_pos ht] at q
    obtain ⟨o, ho, hoe⟩ := List.any_eq_true.mp ht
    obtain ⟨n, hn⟩ := List.getElem?_of_mem ho
    cases o with
    | dict _ => cases hoe
    | lst _ => cases hoe
    | ins _ _ => cases hoe
    | nd _ => cases hoe
    | tab P' q' =>
    obtain ⟨rfl, rfl⟩ := of_decide_eq_true hoe
    obtain ⟨a0, hm, ga, rfl, ps, hP, hT, hcode⟩ := w.obj n _ hn
    -- from any state that bears the store
    have core : ∀ H1 G1, Wd X.w X.K H1 G1 μ st → Stp H G μ H1 G1 μ → tHear CS cx f g (fun E' H' Q' => Se X E' H0 (rRep X.K) b σ H' Q') H1 Q := fun H1 G1 w1 s1 => by
      refine ⟨G1, μ, st, ρ, w1, er.step s1, ?_⟩
      cases hb : b ρ st with
      | bad => rw [hb] at q; exact q.elim
      | ok d st' =>
        rw [hb] at q
        intro v H' G' μ' w' t' r' p hp
        obtain ⟨w2, s2⟩ := w'.new (o := .tup [.str "gave", v]) hp
        exact q _ _ _ _ w2 (s1.trans (t'.trans s2)) (.tup (.inl (.inl upd_same)) (.cons (.str _) (.cons (r'.mono s2.g s2.m) .nil)))
      | err xx st' =>
        rw [hb] at q
        obtain ⟨cc, fs⟩ := xx
        intro cl dd H' G' μ' w' t' xr
        match fs, xr, q with
        | [(g', v2), (f', v1)], xr, q =>
          have q' : Post X.w X.K X.mg E (rRep X.K) H G μ (if cc = cx ∧ g' = g ∧ f' = f ∧ f ≠ g then Res.ok (D.tup [.str cx, v1, v2]) st' else Res.bad) Q := q
          by_cases hcnd : cc = cx ∧ g' = g ∧ f' = f ∧ f ≠ g
          · rw [if_pos hcnd] at q'
            obtain ⟨rfl, rfl, rfl, hfg⟩ := hcnd
            obtain ⟨hcl, d0, ws, rfl, hd0, hws, rw_⟩ := xr
            have hcl' : X.mg cc = some cl := hcl
            rw [hmx] at hcl'; cases hcl'
            match ws, hws, rw_, hd0 with
            | [(n2, w2), (n1, w1')], hws, .cons r2 (.cons r1 .nil), hd0 =>
              have e1 : n2 = g' := by simp at hws; exact hws.1
              have e2 : n1 = f' := by simp at hws; exact hws.2
              subst e1 e2
              refine ⟨rfl, d0, _, w1', w2, rfl, hd0, ?_, ?_, fun p hp => ?_⟩
              · have : (n1 == n2) = false := by simpa using hfg
                simp [List.lookup, this]
              · simp [List.lookup]
              · obtain ⟨w3, s3⟩ := w'.new (o := .tup [.str cc, w1', w2]) hp
                exact q' _ _ _ _ w3 (s1.trans (t'.trans s3)) (.tup (.inl (.inl upd_same)) (.cons (.str _) (.cons (r1.mono s3.g s3.m) (.cons (r2.mono s3.g s3.m) .nil))))
          · rw [if_neg hcnd] at q'
            exact q'.elim
        | [], _, q => exact q.elim
        | [_], _, q => exact q.elim
        | _ :: _ :: _ :: _, _, q => exact q.elim
    refine ⟨ps, hP, hT, fun z cv hz => ?_, core H G w .refl, fun k' qs hk hq hz => ?_⟩
    · obtain ⟨c2, e1, e2⟩ := hcode z cv hz
      exact ⟨c2, e1, w.imm _ _ e2⟩
    · have hPk : a0 ≠ k' := fun e => by rw [e, hk] at hP; cases hP
      obtain ⟨w1, s1⟩ := w.new (o := CodeO k' (lamQ X)) hk
      have ew : upd (upd H a0 (.tbl qs)) k' (CodeO k' (lamQ X)) = upd (upd H k' (CodeO k' (lamQ X))) a0 (.tbl qs) := by
        funext b
        by_cases h1 : b = k'
        · rw [h1, upd_same, upd_ne (Ne.symm hPk), upd_same]
        · by_cases h2 : b = a0
          · rw [upd_ne h1, h2, upd_same, upd_same]
          · rw [upd_ne h1, upd_ne h2, upd_ne h2, upd_ne h1]
      rw [ew]
      obtain ⟨w2, s2⟩ := w1.write (o := .tbl qs) (x := .tab a0 (lamQ X)) hn hm ⟨rfl, qs, upd_same, hq, fun z cv hh => by
        rcases hz z cv hh with e | e
        · exact ⟨k', e, upd_same⟩
        · obtain ⟨c2, e1, e2⟩ := hcode z cv e
          exact ⟨c2, e1, s1.g _ _ e2⟩⟩
      have e3 : st.set n (.tab a0 (lamQ X)) = st := by
        apply List.ext_getElem?
        intro m
        by_cases hm2 : n = m
        · subst hm2
          rw [List.getElem?_set_self (List.getElem?_eq_some_iff.mp hn).1, hn]
        · rw [List.getElem?_set_ne hm2]
      rw [e3] at w2
      exact core _ _ w2 (s1.trans s2)
  · rw [if_neg ht] at q
    exact q.elim
end
end PL

set_option linter.all false
set_option maxRecDepth 100000
set_option maxHeartbeats 4000000
/-! PL19: list comprehensions with two clauses; displays with a star. -/
namespace PL
open PySem PySem.Spec L2
variable {wW : World}
/-- the items of a clause, behind those that are there -/
def lcA (set : D → En → Option En) (tt : En → M Bool) (te : En → M D) (ρ : En) : List D → List D → M (List D)
  | acc, [] => M.pure acc
  | acc, d :: ds => (opt (set d ρ)).bind fun ρ' => (tt ρ').bind fun b => if b = true then (te ρ').bind fun y => (line (acc.length + 1)).bind fun _ => lcA set tt te ρ (acc ++ [y]) ds else lcA set tt te ρ acc ds
def lc2A (set : D → En → Option En) (tt : En → M Bool) (it1 : En → M (List D)) (set1 : D → En → Option En) (vs1 : List Nat) (tt1 : En → M Bool) (te : En → M D) (ρ : En) : List D → List D → M (List D)
  | acc, [] => M.pure acc
  | acc, d :: ds => (opt (set d ρ)).bind fun ρ' => (tt ρ').bind fun b => if b = true then (it1 ρ').bind fun es => (lcA set1 tt1 te (wipeE ρ' vs1) acc es).bind fun acc' => lc2A set tt it1 set1 vs1 tt1 te ρ acc' ds else lc2A set tt it1 set1 vs1 tt1 te ρ acc ds
def eLc2 (it : En → M (List D)) (p : Pt) (vs : List Nat) (tt : En → M Bool) (it1 : En → M (List D)) (p1 : Pt) (vs1 : List Nat) (tt1 : En → M Bool) (te : En → M D) : En → M (List D) := fun ρ => (it ρ).bind fun ds => noX (lc2A p.set tt it1 p1.set vs1 tt1 te (wipeE ρ vs) [] ds)
theorem noX_line (n : Nat) : noX (line n) = line n := by
  funext s
  unfold noX line
  by_cases h : n ≤ sizeLine
  · simp only [if_pos h]
  · simp only [if_neg h]
section
variable {X : Cx} {E : XK} {H0 : Hp} {it it1 : En → M (List D)} {pt pt1 : Pt} {vs vs1 : List Nat} {tt tt1 : En → M Bool} {te : En → M D}
/-- L, a list that is being made, out of the store and of the fixed part, holds acc -/
structure Lg (X : Cx) (L : Addr) (H G : Hp) (μ : Mu) (acc : List V) (accD : List D) : Prop where
  at_ : H L = some (.lst acc)
  rep : RepL X.K G μ acc accD
  g : G L = none
  n : ∀ k, μ k ≠ some L
theorem Lg.step {L : Addr} {H G H' G' : Hp} {μ μ' : Mu} {acc : List V} {accD : List D} (l : Lg X L H G μ acc accD) (z : Stp H G μ H' G' μ') : Lg X L H' G' μ' acc accD := by
  refine ⟨z.fr L _ l.at_ l.n, l.rep.mono z.g z.m, ?_, fun n e => ?_⟩
  · cases e : G' L with
    | none => rfl
    | some o => have := z.ng L l.g (by rw [e]; simp); rw [l.at_] at this; cases this
  · cases e' : μ n with
    | some b => have := z.m n b e'; rw [e] at this; cases this; exact l.n n e'
    | none => have := z.nm n L e' e; rw [l.at_] at this; cases this
theorem Lg.push {L : Addr} {H G : Hp} {μ : Mu} {acc : List V} {accD : List D} (l : Lg X L H G μ acc accD) {y : V} {dy : D} (r : Rep X.K G μ y dy) : Lg X L (upd H L (.lst (acc ++ [y]))) G μ (acc ++ [y]) (accD ++ [dy]) :=
  ⟨upd_same, l.rep.append (.cons r .nil), l.g, l.n⟩
/-- no slot's own list stands at L -/
def NL (L : Addr) (ρ : En) (σ : L2.St) : Prop := ∀ (k : Nat) ds, ρ[k]? = some (.own ds) → σ[k]? ≠ some (some (.ref L))
theorem setAll_own : ∀ {is : List Nat} {ds : List D} {ρ ρ' : En}, setAll is ds ρ = some ρ' → ∀ (k : Nat) es, ρ'[k]? = some (.own es) → ρ[k]? = some (.own es) ∧ k ∉ is
  | [], [], ρ, ρ', h, k, es, e => by cases h; exact ⟨e, List.not_mem_nil⟩
  | i :: is, d :: ds, ρ, ρ', h, k, es, e => by
    unfold setAll at h
    by_cases hi : i < ρ.length
    · rw [if_pos hi] at h
      obtain ⟨h1, h2⟩ := setAll_own h k es e
      by_cases hk : i = k
      · subst hk; rw [List.getElem?_set_self hi] at h1; cases h1
      · rw [List.getElem?_set_ne hk] at h1
        exact ⟨h1, fun z => (List.mem_cons.mp z).elim (fun z => hk z.symm) h2⟩
    · rw [if_neg hi] at h; cases h
  | [], _ :: _, _, _, h, _, _, _ => by cases h
  | _ :: _, [], _, _, h, _, _, _ => by cases h
theorem Pt.own {p : Pt} {d : D} {ρ ρ' : En} (h : p.set d ρ = some ρ') (k : Nat) (es : List D) (e : ρ'[k]? = some (.own es)) : ρ[k]? = some (.own es) ∧ k ∉ p.slots := by
  cases p with
  | nm i =>
    have h' : (if i < ρ.length then some (ρ.set i (.val d)) else none) = some ρ' := by cases d <;> exact h
    by_cases hi : i < ρ.length
    · rw [if_pos hi] at h'
      cases h'
      by_cases hk : i = k
      · subst hk; rw [List.getElem?_set_self hi] at e; cases e
      · rw [List.getElem?_set_ne hk] at e
        exact ⟨e, fun z => hk (List.mem_singleton.mp z).symm⟩
    · rw [if_neg hi] at h'; cases h'
  | tp is =>
    cases d with
    | tup ds => exact setAll_own h k es e
    | _ => cases h
theorem wipe_get : ∀ {vs : List Nat} {σ : L2.St} {k : Nat}, k ∉ vs → (L2.wipe σ vs)[k]? = σ[k]?
  | [], _, _, _ => rfl
  | v :: vs, σ, k, h => by
    show ((L2.wipe σ vs).set v none)[k]? = _
    rw [List.getElem?_set_ne (fun e : v = k => h (by rw [e]; exact List.mem_cons_self)), wipe_get fun z => h (List.mem_cons_of_mem _ z)]
theorem wipeE_own : ∀ {vs : List Nat} {ρ : En} {k : Nat} {es : List D}, (wipeE ρ vs)[k]? = some (.own es) → ρ[k]? = some (.own es) ∧ k ∉ vs
  | [], _, _, _, h => ⟨h, List.not_mem_nil⟩
  | v :: vs, ρ, k, es, h => by
    have h' : ((wipeE ρ vs).set v .no)[k]? = some (.own es) := h
    by_cases hv : v = k
    · subst hv
      by_cases hl : v < (wipeE ρ vs).length
      · rw [List.getElem?_set_self hl] at h'; cases h'
      · rw [List.getElem?_eq_none (by rw [List.length_set]; omega)] at h'; cases h'
    · rw [List.getElem?_set_ne hv] at h'
      obtain ⟨a, b⟩ := wipeE_own h'
      exact ⟨a, fun z => (List.mem_cons.mp z).elim (fun z => hv z.symm) b⟩
theorem NL.set {L : Addr} {p : Pt} {d : D} {ρ ρ' : En} {σ σ' : L2.St} (n : NL L ρ σ) (h : p.set d ρ = some ρ') (hw : ∀ ws, (∀ i ∈ p.slots, i ∈ ws) → L2.wipe σ' ws = L2.wipe σ ws) : NL L ρ' σ' := fun k es e z => by
  obtain ⟨h1, h2⟩ := Pt.own h k es e
  have e2 := congrArg (fun l => l[k]?) (hw p.slots fun _ h => h)
  simp only [wipe_get h2] at e2
  exact n k es h1 (e2 ▸ z)
theorem NL.wipe {L : Addr} {ρ : En} {σ : L2.St} (n : NL L ρ σ) (vs : List Nat) : NL L (wipeE ρ vs) (L2.wipe σ vs) := fun k es e z => by
  obtain ⟨h1, h2⟩ := wipeE_own e
  rw [wipe_get h2] at z
  exact n k es h1 z
theorem er_aside {K : PySem.W.Frag} {H G H0 : Hp} {μ : Mu} {ρ : En} {σ : L2.St} {L : Addr} {o : HO} (er : ER K H G μ H0 ρ σ) (n : NL L ρ σ) : ER K (L2.upd H L o) G μ H0 ρ σ where
  val := er.val
  own := fun i ds q => by
    obtain ⟨a, vs, h1, h2, h3⟩ := er.own i ds q
    exact ⟨a, vs, h1, by rw [upd_ne (fun z : a = L => n i ds q (by rw [h1, z]))]; exact h2, h3⟩
  inj := er.inj
  len := er.len
  old := fun b o h => by
    by_cases hb : b = L
    · subst hb; exact ⟨_, upd_same⟩
    · obtain ⟨o', h'⟩ := er.old b o h; exact ⟨o', by rw [upd_ne hb]; exact h'⟩
theorem lc2_read (hv : ∀ i ∈ pt.slots, i ∈ vs) (hv1 : ∀ i ∈ pt1.slots, i ∈ vs1) : ∀ (σ : L2.St) (H : Hp) (Q : VK), Se X E H0 (rFresh X.K) (eLc2 it pt vs tt it1 pt1 vs1 tt1 te) σ H Q →
    tLc2 (Se X E H0 (rIt X.w X.K) it) (pt.g X.K) (Se X xNo H0 rTrue tt) (Se X xNo H0 (rIt X.w X.K) it1) (pt1.g X.K) (Se X xNo H0 rTrue tt1) (Se X xNo H0 (rRep X.K) te) vs vs1 σ H Q := by
  intro σ H Q ⟨G, μ, st, ρ, w, er, q⟩
  refine ⟨G, μ, st, ρ, w, er, Post.raw q fun ds st1 J H1 G1 μ1 w1 s1 r1 q0 => ?_⟩
  intro L hL
  obtain ⟨hz, hJ⟩ := r1
  have q1 := q0.step s1
  have er1 : ER X.K H1 G1 μ1 H0 (wipeE ρ vs) (L2.wipe σ vs) := (er.step s1).wipe vs
  have n1 : NL L (wipeE ρ vs) (L2.wipe σ vs) := fun k es e z => by
    obtain ⟨a, us, z1, z2, _⟩ := er1.own k es e
    rw [z] at z1; cases z1
    rw [hL] at z2; cases z2
  have g1L : G1 L = none := none_before w1.imm.th hL
  obtain ⟨wL, sL⟩ := w1.lay (o := .lst []) hL
  have nL : ∀ n, μ1 n ≠ some L := fun k e => by
    obtain ⟨b, h1, _, h3⟩ := w1.obj k _ (List.getElem?_eq_getElem (w1.dom k L e))
    rw [e] at h1; cases h1
    obtain ⟨u, hu⟩ := h3.there
    rw [hL] at hu; cases hu
  let In : Nat → Hp → Prop := fun i H => ∃ G μ st acc accD, Wd X.w X.K H G μ st ∧ Stp H1 G1 μ1 H G μ ∧ Lg X L H G μ acc accD ∧
    Post X.w X.K X.mg E (rFresh X.K) H1 G1 μ1 (((noX (lc2A pt.set tt it1 pt1.set vs1 tt1 te (wipeE ρ vs) accD (ds.drop i)))) st) Q
  refine ⟨fun i m H => m = ds.length - i ∧ i ≤ ds.length ∧ In i H, ⟨ds.length, by simp, Nat.zero_le _, G1, μ1, st1, [], [], wL, sL, ⟨upd_same, .nil, g1L, nL⟩, q1⟩, ?_⟩
  rintro i m H ⟨rfl, hi, G, μ, st, acc, accD, w, s, l, q⟩
  obtain ⟨hgo, hstop⟩ := hJ H G μ st w s.g s.m
  by_cases hlt : i < ds.length
  · obtain ⟨go, hy⟩ := hgo i hlt
    refine .inr ⟨go, In (i + 1), fun H' h => ⟨_, by omega, rfl, hlt, h⟩, fun x H2 hx => ?_⟩
    obtain ⟨G2, w2, s2, d, hd, rd⟩ := hy x H2 hx
    rw [List.drop_eq_getElem_cons hlt] at q
    have ed : ds[i] = d := Option.some.inj ((List.getElem?_eq_getElem hlt).symm.trans hd)
    rw [ed] at q
    unfold lc2A at q
    rw [noX_bind, noX_opt] at q
    obtain ⟨ρ2, hset, q⟩ := Post.opt q
    have t2 := s.trans s2
    refine Pt.ok hset w2 rd (er1.step t2) fun σ2 er2 hw => ⟨(hw vs hv).trans (wipe_idem vs σ), ?_⟩
    have n2 : NL L ρ2 σ2 := n1.set hset hw
    rw [noX_bind] at q
    refine ⟨G2, μ, st, ρ2, w2, er2, Post.nbind q fun b st3 b' H3 G3 μ3 w3 s3 r3 q3 => ?_⟩
    cases r3
    have l3 := l.step (s2.trans s3)
    have t3 := t2.trans s3
    cases b with
    | false => exact ⟨G3, μ3, st3, acc, accD, w3, t3, l3, q3⟩
    | true =>
      have q3' : Post X.w X.K X.mg E (rFresh X.K) H1 G1 μ1 (noX ((it1 ρ2).bind fun es => (lcA pt1.set tt1 te (wipeE ρ2 vs1) accD es).bind fun acc' => lc2A pt.set tt it1 pt1.set vs1 tt1 te (wipeE ρ vs) acc' (ds.drop (i + 1))) st3) Q := q3
      rw [noX_bind] at q3'
      have er3 := er2.step s3
      refine ⟨G3, μ3, st3, ρ2, w3, er3, Post.nbind q3' fun es st4 J1 H4 G4 μ4 w4 s4 r4 q4 => ?_⟩
      obtain ⟨hz1, hJ1⟩ := r4
      have er4 : ER X.K H4 G4 μ4 H0 (wipeE ρ2 vs1) (L2.wipe σ2 vs1) := (er3.step s4).wipe vs1
      have t4 := t3.trans s4
      let In1 : Nat → Hp → Prop := fun j H => ∃ G μ st acc accD, Wd X.w X.K H G μ st ∧ Stp H1 G1 μ1 H G μ ∧ Sub G4 G ∧ SubM μ4 μ ∧ ER X.K H G μ H0 (wipeE ρ2 vs1) (L2.wipe σ2 vs1) ∧ Lg X L H G μ acc accD ∧
        Post X.w X.K X.mg E (rFresh X.K) H1 G1 μ1 ((noX ((lcA pt1.set tt1 te (wipeE ρ2 vs1) accD (es.drop j)).bind fun acc' => lc2A pt.set tt it1 pt1.set vs1 tt1 te (wipeE ρ vs) acc' (ds.drop (i + 1)))) st) Q
      refine ⟨fun j m H => m = es.length - j ∧ j ≤ es.length ∧ In1 j H, ⟨es.length, by simp, Nat.zero_le _, G4, μ4, st4, acc, accD, w4, t4, fun _ _ h => h, fun _ _ h => h, er4, l3.step s4, q4⟩, ?_⟩
      rintro j m H ⟨rfl, hj, G, μ, st, acc, accD, w, s, sg, sm, er5, l, q⟩
      obtain ⟨hgo, hstop⟩ := hJ1 H G μ st w sg sm
      by_cases hlt1 : j < es.length
      · obtain ⟨go, hy⟩ := hgo j hlt1
        refine .inr ⟨go, In1 (j + 1), fun H' h => ⟨_, by omega, rfl, hlt1, h⟩, fun x H2 hx => ?_⟩
        obtain ⟨G2, w2, s2, d, hd, rd⟩ := hy x H2 hx
        rw [List.drop_eq_getElem_cons hlt1] at q
        have ed : es[j] = d := Option.some.inj ((List.getElem?_eq_getElem hlt1).symm.trans hd)
        rw [ed] at q
        unfold lcA at q
        rw [M.bind_assoc, noX_bind, noX_opt] at q
        obtain ⟨ρ3, hset, q⟩ := Post.opt q
        have t2 := s.trans s2
        refine Pt.ok hset w2 rd (er5.step s2) fun σ3 er6 hw => ⟨(hw vs1 hv1).trans (wipe_idem vs1 σ2), ?_⟩
        rw [M.bind_assoc, noX_bind] at q
        refine ⟨G2, μ, st, ρ3, w2, er6, Post.nbind q fun b st3 b' H3 G3 μ3 w3 s3 r3 q3 => ?_⟩
        cases r3
        have l3 := l.step (s2.trans s3)
        have er7 := er5.step (s2.trans s3)
        cases b with
        | false => exact ⟨G3, μ3, st3, acc, accD, w3, t2.trans s3, sg.trans (s2.trans s3).g, fun n a e => (s2.trans s3).m n a (sm n a e), er7, l3, q3⟩
        | true =>
          have q3' : Post X.w X.K X.mg E (rFresh X.K) H1 G1 μ1 (noX (((te ρ3).bind fun y => (line (accD.length + 1)).bind fun _ => lcA pt1.set tt1 te (wipeE ρ2 vs1) (accD ++ [y]) (es.drop (j + 1))).bind fun acc' => lc2A pt.set tt it1 pt1.set vs1 tt1 te (wipeE ρ vs) acc' (ds.drop (i + 1))) st3) Q := q3
          rw [M.bind_assoc, noX_bind] at q3'
          refine ⟨G3, μ3, st3, ρ3, w3, er6.step s3, Post.nbind q3' fun dy st4 y H4 G4 μ4 w4 s4 r4 q4 => ?_⟩
          rw [M.bind_assoc, noX_bind, noX_line] at q4
          obtain ⟨hln, q4⟩ := q4.line
          have s24 := (s2.trans s3).trans s4
          have l4 := l.step s24
          refine ⟨acc, l4.at_, by rw [RepL.length l4.rep]; omega, G4, μ4, st4, acc ++ [y], accD ++ [dy], w4.over l4.g l4.n, ((t2.trans s3).trans s4).over hL, sg.trans s24.g, fun n a e => s24.m n a (sm n a e), ?_, l4.push r4, q4⟩
          exact er_aside (er5.step s24) (n2.wipe vs1)
      · have e : j = es.length := by omega
        subst e
        rw [List.drop_length] at q
        refine .inl ⟨hstop _ (Nat.le_refl _), G, μ, st, acc, accD, w, s, l, q⟩
  · have e : i = ds.length := by omega
    subst e
    rw [List.drop_length] at q
    refine .inl ⟨hstop _ (Nat.le_refl _), ?_⟩
    exact q (.ref L) H G μ w s ⟨L, acc, rfl, l.at_, l.rep, l.g, l.n, hL⟩
variable {elt tg iter tg1 iter1 : Expr} {ifs ifs1 : List Expr} {scope : Scope} {own : List (Str × Nat)} {pos : Pos}
theorem jf_lc2 (hc : X.calm = true) (hN : X.N.Nodup) (hi : JI X E H0 tg it iter) (ok : BlkOk X.N X.env.scope scope own) (hv : ∀ i ∈ pt.slots, i ∈ own.map (·.2)) (hv1 : ∀ i ∈ pt1.slots, i ∈ vs1) (hv2 : ∀ i ∈ vs1, i ∈ own.map (·.2))
    (hg : ∀ (s : Shared) (H : Hp) (C : Addr) (cl : List (Str × Addr)) (fp : List Addr), PG (X.blk s H scope (compEnvC scope cl C X.env) fp) tg (pt.g X.K))
    (ht : ∀ (s : Shared) (H : Hp) (C : Addr) (cl : List (Str × Addr)) (fp : List Addr), JTs (X.blk s H scope (compEnvC scope cl C X.env) fp) xNo H0 tt ifs)
    (hi1 : ∀ (s : Shared) (H : Hp) (C : Addr) (cl : List (Str × Addr)) (fp : List Addr), JI (X.blk s H scope (compEnvC scope cl C X.env) fp) xNo H0 tg1 it1 iter1)
    (hg1 : ∀ (s : Shared) (H : Hp) (C : Addr) (cl : List (Str × Addr)) (fp : List Addr), PG (X.blk s H scope (compEnvC scope cl C X.env) fp) tg1 (pt1.g X.K))
    (ht1 : ∀ (s : Shared) (H : Hp) (C : Addr) (cl : List (Str × Addr)) (fp : List Addr), JTs (X.blk s H scope (compEnvC scope cl C X.env) fp) xNo H0 tt1 ifs1)
    (he : ∀ (s : Shared) (H : Hp) (C : Addr) (cl : List (Str × Addr)) (fp : List Addr), JE (X.blk s H scope (compEnvC scope cl C X.env) fp) xNo H0 te elt) (hs : ∀ x, foldedSetIterable iter X.env x = pure x := by intro _; rfl) (hs1 : ∀ env x, foldedSetIterable iter1 env x = pure x := by intro _ _; rfl) :
    JF X E H0 (eLc2 it pt (own.map (·.2)) tt it1 pt1 vs1 tt1 te) (.ListComp elt [⟨tg, iter, ifs, 0⟩, ⟨tg1, iter1, ifs1, 0⟩] scope pos) :=
  PE.imp (pe_lc2 (tt := Se X xNo H0 rTrue tt) (tt1 := Se X xNo H0 rTrue tt1) (wi1 := Se X xNo H0 (rIt X.w X.K) it1) (te := Se X xNo H0 (rRep X.K) te) hc hN hi ok hv2 hg ht hi1 hg1 ht1 he hs hs1) (lc2_read hv hv1)
section
variable {Φ : Ent} {i : Nat} {y : Str} {py spos : Pos} {ρ : En} {st : Sto}
theorem js_setLc2 (hc : X.calm = true) (hN : X.N.Nodup) (hy : X.N[i]? = some y) (hyl : X.env.scope.names.lookup y = some .local) (hsw : swapsWith (.ListComp elt [⟨tg, iter, ifs, 0⟩, ⟨tg1, iter1, ifs1, 0⟩] scope pos) (some (.Name y py)) spos.line X.env = pure true)
    (hi : JI X E Φ.H tg it iter) (ok : BlkOk X.N X.env.scope scope own) (hv : ∀ i ∈ pt.slots, i ∈ own.map (·.2)) (hv1 : ∀ i ∈ pt1.slots, i ∈ vs1) (hv2 : ∀ i ∈ vs1, i ∈ own.map (·.2))
    (hg : ∀ (s : Shared) (H : Hp) (C : Addr) (cl : List (Str × Addr)) (fp : List Addr), PG (X.blk s H scope (compEnvC scope cl C X.env) fp) tg (pt.g X.K))
    (ht : ∀ (s : Shared) (H : Hp) (C : Addr) (cl : List (Str × Addr)) (fp : List Addr), JTs (X.blk s H scope (compEnvC scope cl C X.env) fp) xNo Φ.H tt ifs)
    (hi1 : ∀ (s : Shared) (H : Hp) (C : Addr) (cl : List (Str × Addr)) (fp : List Addr), JI (X.blk s H scope (compEnvC scope cl C X.env) fp) xNo Φ.H tg1 it1 iter1)
    (hg1 : ∀ (s : Shared) (H : Hp) (C : Addr) (cl : List (Str × Addr)) (fp : List Addr), PG (X.blk s H scope (compEnvC scope cl C X.env) fp) tg1 (pt1.g X.K))
    (ht1 : ∀ (s : Shared) (H : Hp) (C : Addr) (cl : List (Str × Addr)) (fp : List Addr), JTs (X.blk s H scope (compEnvC scope cl C X.env) fp) xNo Φ.H tt1 ifs1)
    (he : ∀ (s : Shared) (H : Hp) (C : Addr) (cl : List (Str × Addr)) (fp : List Addr), JE (X.blk s H scope (compEnvC scope cl C X.env) fp) xNo Φ.H te elt) (hs : ∀ x, foldedSetIterable iter X.env x = pure x := by intro _; rfl) (hs1 : ∀ env x, foldedSetIterable iter1 env x = pure x := by intro _ _; rfl) :
    JS X E Φ (sSet i (eL (eLc2 it pt (own.map (·.2)) tt it1 pt1 vs1 tt1 te))) (.Assign [.Name y py] (.ListComp elt [⟨tg, iter, ifs, 0⟩, ⟨tg1, iter1, ifs1, 0⟩] scope pos) spos) := by
  refine PS.imp (ps_setLc2 (tt := Se X xNo Φ.H rTrue tt) (tt1 := Se X xNo Φ.H rTrue tt1) (wi1 := Se X xNo Φ.H (rIt X.w X.K) it1) (te := Se X xNo Φ.H (rRep X.K) te) hc hN hy hyl hsw hi ok hv2 hg ht hi1 hg1 ht1 he hs hs1) fun Dn σ H ⟨G, μ, st, ρ, w, er, s, p⟩ => ?_
  have p' : PostS X E Φ Dn (((eLc2 it pt (own.map (·.2)) tt it1 pt1 vs1 tt1 te ρ).bind fun ds => put i (.val (.lst ds)) ρ) st) := by
    have e : sSet i (eL (eLc2 it pt (own.map (·.2)) tt it1 pt1 vs1 tt1 te)) ρ = (eLc2 it pt (own.map (·.2)) tt it1 pt1 vs1 tt1 te ρ).bind fun ds => put i (.val (.lst ds)) ρ := M.bind_assoc _ _ _
    rw [← e]; exact p
  refine lc2_read hv hv1 _ _ _ ⟨G, μ, st, ρ, w, er, p'.bind s fun ds st' v H' G' μ' w' s' t' r q => ?_⟩
  obtain ⟨a, vs, rfl, h1, h2, h3, h4, h5⟩ := r
  exact put_val q (w'.freeze h1 h3 h4) (er.step (s'.freeze h3 h5)) (t'.freeze h3 (none_before s.th h5)) (.lst upd_same (h2.mono (subUpd h3) fun _ _ h => h))
end
/-- a star in a display -/
def aStar (f : En → M D) (g : En → M (List D)) : En → M (List D) := fun ρ => (f ρ).bind fun d => (opt (seqD d)).bind fun xs => (g ρ).bind fun ys => M.pure (xs ++ ys)
theorem ja_star {f : En → M D} {g : En → M (List D)} {e : Expr} {es : List Expr} {p : Pos} (he : JE X E H0 f e) (hr : JA X E H0 g es) (hs : starEach (.Starred e p :: es) X.env = (true, eval e X.env) :: starEach es X.env := by rfl) : JA X E H0 (aStar f g) (.Starred e p :: es) :=
  PA.imp (StX.pa_star he hr hs) fun σ H Q ⟨G, μ, st, ρ, w, er, q⟩ => ⟨G, μ, st, ρ, w, er, Post.bind q fun d st1 v H1 G1 μ1 w1 s1 r1 q1 => by
    obtain ⟨ds, hd, q1⟩ := Post.opt q1
    obtain ⟨a, vs, rfl, hq, rr⟩ := BRep.seq w1.imm (.inl r1) hd
    exact ⟨a, vs, rfl, hq.symm, G1, μ1, st1, ρ, w1, er.step s1, Post.bind q1 fun ys st2 us H2 G2 μ2 w2 s2 r2 q2 => q2 _ _ _ _ w2 .refl ((rr.mono s2.g s2.m).append r2)⟩⟩
end
end PL

set_option linter.all false
set_option maxRecDepth 100000
set_option maxHeartbeats 6000000
/-! PL20: sorted(set(xs)) of a list of texts. -/
namespace PL
section
open PySem PySem.Spec L2
variable {wW : World}
/-- the text of a set's entry -/
def txtOf (e : Int × Value) : Str := match e.2 with
  | .str k _ => k
  | _ => Str.empty
def GoodT (P : Program) (w : World) (e : Int × Value) : Prop := ∃ k tk, e.2 = Value.str k tk ∧ e.1 = (PySem.strKind P w).hash k
/-- at a: a set of texts, S its members, n their number -/
def SetT (P : Program) (w : World) (h : Heap) (a : Addr) (S : Str → Bool) (n : Nat) : Prop := ∃ o es ep t, h.get? a = some o ∧ o.ExactSet ∧ o.data = .set es ep t ∧ (∀ e ∈ es.toList, GoodT P w e) ∧
  (es.toList.map txtOf).Nodup ∧ (∀ k, S k = true ↔ k ∈ es.toList.map txtOf) ∧ es.size < scanBound ∧ t.fits es.size = true ∧ es.size = n ∧ Ris t.place.toList ∧ (w.params.followText "set-order" = true ∨ t.led = true)
section
variable {P : Program} {w : World} {h h' : Heap} {a : Addr} {S : Str → Bool} {n : Nat}
theorem SetT.keep (R : SetT P w h a S n) (k : ∀ o, h.get? a = some o → h'.get? a = some o) : SetT P w h' a S n := let ⟨o, es, ep, t, ho, r⟩ := R; ⟨o, es, ep, t, k o ho, r⟩
theorem SetT.same {S' : Str → Bool} (R : SetT P w h a S n) (e : ∀ k, S' k = S k) : SetT P w h a S' n := by rw [show S' = S from funext e]; exact R
theorem goodT_el {l : List (Int × Value)} (g : ∀ e ∈ l, GoodT P w e) : ElemsOf (PySem.strKind P w) l := fun e he => by
  obtain ⟨k, tk, h1, h2⟩ := g e he
  refine ⟨⟨k, by rw [h1]; exact strKind_is P w k tk, h2⟩, ?_⟩
  rw [h1]; rfl
theorem goodT_is {e : Int × Value} (g : GoodT P w e) (k : Str) : (PySem.strKind P w).is k e.2 = true ↔ txtOf e = k := by
  obtain ⟨k0, tk, h1, _⟩ := g
  unfold txtOf
  rw [h1]
  constructor
  · intro z
    exact (PySem.strKind P w).inj _ _ _ (strKind_is P w k0 tk) z
  · rintro rfl
    exact strKind_is P w _ tk
theorem goodT_mem {l : List (Int × Value)} (g : ∀ e ∈ l, GoodT P w e) (k : Str) : k ∈ l.map txtOf ↔ ∃ e ∈ l, (PySem.strKind P w).is k e.2 = true :=
  ⟨fun z => let ⟨e, he, q⟩ := List.mem_map.mp z; ⟨e, he, (goodT_is (g e he) k).2 q⟩, fun ⟨e, he, q⟩ => List.mem_map.mpr ⟨e, he, (goodT_is (g e he) k).1 q⟩⟩
end
section
variable {P : Program} {w : World} {A : Around} {E : Value → Shared → Prop} {s : Shared} {a : Addr} {S : Str → Bool} {n : Nat}
theorem setT_tail {g : Bool → Sem Unit} (hg : ∀ (b : Bool) (s₁ : Shared) (Q' : Unit → Shared → Prop), Q' () s₁ → wpAny (model P w) A (g b) Q' E s₁) {o : Obj} {es : Array (Int × Value)} {ep : Nat} {t : SetTable} (ho : s.heap.get? a = some o) (hex : o.ExactSet) (hd : o.data = .set es ep t)
    {es1 : Array (Int × Value)} {t2 : SetTable} {S' : Str → Bool} (g1 : ∀ e ∈ es1.toList, GoodT P w e) (nd1 : (es1.toList.map txtOf).Nodup) (m1 : ∀ k, S' k = true ↔ k ∈ es1.toList.map txtOf) (hb1 : es1.size < scanBound) (hf2 : t2.fits es1.size = true) (hr : Ris t2.place.toList)
    (hl : w.params.followText "set-order" = true ∨ t2.led = true) {wasDummy : Bool} {R : Option Bool → Shared → Prop} (hR : ∀ h', Heap.SameBut a s.heap h' → SetT P w h' a S' es1.size → R (some true) { s with heap := h' }) :
    wpAny (model P w) A (storeSet a es1 t2 >>= fun _ => if (!wasDummy && t2.tooFull) = true then (g (relayAll t2 es1 (SetTable.grown es1.size)).2.2 >>= fun _ => storeSet a (relayAll t2 es1 (SetTable.grown es1.size)).1 (relayAll t2 es1 (SetTable.grown es1.size)).2.1 >>= fun _ => pure (some true)) else pure (some true)) R E s := by
  have o1 := store_at (es' := es1) (t' := t2) ho hd
  have sb1 := Heap.SameBut.update s.heap a (Obj.putSet es1 t2)
  refine wpAny_bind (wpAny_storeSet_of ho hd ?_ (fits_of_scanBound hb1))
  by_cases hc : (!wasDummy && t2.tooFull) = true
  · rw [if_pos hc]
    have pm := relayAll_perm t2 es1 (SetTable.grown es1.size)
    have f3 := relayAll_fits t2 es1 (SetTable.grown es1.size)
    have r3 := relayAll_ris t2 es1 (SetTable.grown es1.size)
    have l3 := relayAll_led t2 es1 (SetTable.grown es1.size)
    generalize relayAll t2 es1 (SetTable.grown es1.size) = Z at pm f3 r3 l3 ⊢
    obtain ⟨es2, t3, gave⟩ := Z
    dsimp only at pm f3 r3 l3 ⊢
    have sz : es2.size = es1.size := by rw [← Array.length_toList, pm.length_eq, Array.length_toList]
    have b2 : es2.size < scanBound := by rw [sz]; exact hb1
    refine wpAny_bind (hg _ _ _ (wpAny_bind (wpAny_storeSet_of o1 rfl (wpAny_pure (hR _ (sb1.trans (Heap.SameBut.update _ a _)) ?_)) (fits_of_scanBound b2))))
    exact ⟨_, es2, _, t3, store_at (es' := es2) (t' := t3) o1 rfl, hex, rfl, fun e he => g1 e (pm.mem_iff.mp he), (pm.map txtOf).nodup_iff.mpr nd1, fun k => (m1 k).trans (pm.map txtOf).mem_iff.symm, b2, f3, sz, r3, hl.imp id fun z => l3.trans z⟩
  · rw [if_neg hc]
    exact wpAny_pure (hR _ sb1 ⟨_, es1, _, t2, o1, hex, rfl, g1, nd1, m1, hb1, hf2, rfl, hr, hl⟩)
theorem setT_add {k : Str} {tk : Tok} {Q : Bool → Shared → Prop} (R : SetT P w s.heap a S n) (room : n + 1 < scanBound)
    (hQ : ∀ h', Heap.SameBut a s.heap h' → SetT P w h' a (fun j => S j || decide (j = k)) (if S k = true then n else n + 1) → Q (!S k) { s with heap := h' }) :
    wpAny (model P w) A (setAddHashed a (.str k tk) ((PySem.strKind P w).hash k)) Q E s := by
  obtain ⟨o, es, ep, t, ho, hex, hd, g, nd, hm, hb, hf, hn, hr, hl⟩ := R
  have hkey : (PySem.strKind P w).is k (.str k tk) = true := strKind_is P w k tk
  have hel := goodT_el g
  have hsc : (Value.str k tk).scannable = true := rfl
  unfold setAddHashed setAddHashedIn
  refine wpAny_holding (wpAny_bind (wpAny_setState_of ho hd hf ?_))
  dsimp only
  rw [byScan_of hsc hb hel]
  simp only [↓reduceIte]
  unfold setAddByScan
  refine wpAny_bind (wpAny_bind (wpAny_rule (wpAny_bind (wpAny_setScan_of hkey ho hd hf hel ?_))))
  cases hfi : List.findIdx? (fun e => (PySem.strKind P w).is k e.2) es.toList with
  | none =>
    dsimp only
    have hnk : k ∉ es.toList.map txtOf := fun z => by
      obtain ⟨e, he, q⟩ := (goodT_mem g k).1 z
      have c := List.findIdx?_eq_none_iff.mp hfi e he
      rw [q] at c; cases c
    have hSk : S k = false := by
      cases q : S k with
      | false => rfl
      | true => exact absurd ((hm k).1 q) hnk
    have hgw : ∀ (b : Bool) {s₁ : Shared} {Q' : Unit → Shared → Prop}, Q' () s₁ → wpAny (model P w) A (match b with | true => rule "set.scan.the-table-gave-way" | false => pure ()) Q' E s₁ := fun b s₁ Q' q => by
      cases b with
      | true => exact wpAny_rule q
      | false => exact wpAny_pure q
    have pm := layNew_perm t es ((PySem.strKind P w).hash k) (.str k tk)
    have f1 := layNew_fits t es ((PySem.strKind P w).hash k) (.str k tk)
    have r1 := layNew_ris t es ((PySem.strKind P w).hash k) (.str k tk) hr
    have l1 := layNew_led t es ((PySem.strKind P w).hash k) (.str k tk)
    generalize layNew t es ((PySem.strKind P w).hash k) (.str k tk) = Z at pm f1 r1 l1 ⊢
    obtain ⟨es1, t1, wasDummy, gave⟩ := Z
    dsimp only at pm f1 r1 l1 ⊢
    rw [Array.toList_push] at pm
    have pc := pm.trans (List.perm_append_singleton _ _)
    have pk : (es1.toList.map txtOf).Perm (k :: es.toList.map txtOf) := pc.map txtOf
    have g1 : ∀ e ∈ es1.toList, GoodT P w e := fun e he => by
      rcases List.mem_cons.mp (pc.mem_iff.mp he) with rfl | z
      · exact ⟨k, tk, rfl, rfl⟩
      · exact g e z
    have n1 := pk.nodup_iff.mpr (List.nodup_cons.mpr ⟨hnk, nd⟩)
    have m1 : ∀ i, (S i || decide (i = k)) = true ↔ i ∈ es1.toList.map txtOf := fun i => by
      rw [Bool.or_eq_true, decide_eq_true_eq, hm i, pk.mem_iff, List.mem_cons, or_comm]
    have sz : es1.size = n + 1 := by rw [← Array.length_toList, pc.length_eq, List.length_cons, Array.length_toList, hn]
    have b1 : es1.size < scanBound := sz ▸ room
    have hled : w.params.followText "set-order" = true ∨ t1.led = true := hl.imp id fun z => l1.trans z
    have fin : ∀ h', Heap.SameBut a s.heap h' → SetT P w h' a (fun j => S j || decide (j = k)) es1.size → Q true { s with heap := h' } := fun h' sb r => by
      have q := hQ h' sb
      rw [hSk] at q
      exact q (sz ▸ r)
    refine wpAny_bind (hgw _ ?_)
    split
    · refine wpAny_bind ?_
      rw [hashByValue_scannable 8 hsc]
      refine wpAny_pure (setT_tail (fun b s₁ Q' q => hgw b q) ho hex hd g1 n1 m1 b1 ?_ ?_ ?_ fun h' sb r => ?_)
      · first | exact f1 | exact SetTable.fits_plain_off f1 | (split <;> first | exact f1 | exact SetTable.fits_plain_off f1)
      · first | exact r1 | (split <;> exact r1)
      · first | exact hled | (split <;> exact hled)
      · dsimp only; exact wpAny_pure (fin h' sb r)
    · refine wpAny_bind (wpAny_pure ?_)
      simp only [↓reduceIte]
      refine setT_tail (fun b s₁ Q' q => hgw b q) ho hex hd g1 n1 m1 b1 f1 r1 hled fun h' sb r => ?_
      dsimp only; exact wpAny_pure (fin h' sb r)
  | some j =>
    dsimp only
    obtain ⟨hj, pj, _⟩ := List.findIdx?_eq_some_iff_getElem.mp hfi
    have hSk : S k = true := (hm k).2 ((goodT_mem g k).2 ⟨es.toList[j], List.getElem_mem hj, pj⟩)
    have q := hQ s.heap (Heap.SameBut.refl a s.heap) ⟨o, es, ep, t, ho, hex, hd, g, nd, fun i => by
      rw [Bool.or_eq_true, decide_eq_true_eq, ← hm i]
      exact ⟨fun z => z.elim id fun e => e ▸ hSk, .inl⟩, hb, hf, by rw [if_pos hSk]; exact hn, hr, hl⟩
    rw [hSk] at q
    exact wpAny_pure (wpAny_pure q)
end
end
end PL

set_option linter.all false
set_option maxRecDepth 100000
set_option maxHeartbeats 6000000
/-! PL21: set(xs) of a list of texts; sorted of it. -/
namespace PL
section
open PySem PySem.Spec PyProof.Rows L2
variable {wW : World}
theorem txts_at : ∀ {us : List Value} {xs : List Str}, StrsAre us xs → ∀ (i : Nat) (v : Value), us[i]? = some v → ∃ t, v = .str (xs.getD i Str.empty) t
  | _, _, .nil, i, v, h => by simp at h
  | _, _, .cons y t r, 0, v, h => by simp at h; exact ⟨t, by rw [← h]; rfl⟩
  | _, _, .cons y t r, i + 1, v, h => by
    obtain ⟨u, e⟩ := txts_at r i v (by simpa using h)
    exact ⟨u, by rw [e]; rfl⟩
theorem setT_new {P : Program} {w : World} {h : Heap} {a : Addr} {ks : List Str} (ho : h.get? a = some { cls := .type "set", dict := none, data := .set #[] 0 (.fresh 0 0 (!w.params.followText "set-order")) }) : SetT P w h a (fun j => decide (j ∈ ks.take 0)) 0 :=
  ⟨_, #[], 0, _, ho, ⟨rfl, rfl, rfl⟩, rfl, (fun e he => absurd he List.not_mem_nil), List.nodup_nil, (fun k => by simp), by decide, by rfl, rfl, List.Pairwise.nil, by
    show _ ∨ (!w.params.followText "set-order") = true
    cases w.params.followText "set-order" <;> simp⟩
section
variable {P : Program} {w : World} {A : Around} {E : Value → Shared → Prop} {s : Shared}
theorem set_update_txts {I : Addr} {fp wr : List Addr} {G : Array GenState → Array GenState → Prop} {n : Nat} {Pv : Nat → Value → Prop} {St : Nat → Shared → Prop} {R : Result → Shared → Prop} (W : WalksS P w A.in1 I fp wr G n Pv St) (Z : Addr) (hZ : Z ∉ fp) (xs : List Str) (hn : n = xs.length) (hb : xs.length + 1 < scanBound)
    (hval : ∀ i v, Pv i v → ∃ k t, xs[i]? = some k ∧ v = .str k t) : ∀ (m i : Nat) (s : Shared), n - i = m → i ≤ n → St i s → (∃ c, c ≤ i ∧ SetT P w s.heap Z (fun j => decide (j ∈ xs.take i)) c) →
      (∀ s' c, Moved (Z :: wr) G s s' → c ≤ n → SetT P w s'.heap Z (fun j => decide (j ∈ xs)) c → R (.ok (.ret .none)) s') → codeAny (model P w) A (.builtin "set.update.loop" ⟨[.ref Z, .ref I], []⟩) R s := by
  have hw : Z ∉ wr := fun h => hZ (W.sub _ h)
  have sub : ∀ b ∈ wr, b ∈ Z :: wr := fun b hb => List.mem_cons_of_mem _ hb
  intro m
  induction m with
  | zero =>
    intro i s hm hi hst ⟨c, hc, hS⟩ hR
    obtain rfl : i = n := by omega
    refine codeAny_builtin F.entry_set_update_loop ?_
    rw [Around.under_plainId F.plain_set_update_loop _]
    show wpAny _ A.in1 (pyNext (.ref I) >>= _) _ _ s
    refine wpAny_bind (W.done s _ _ hst fun s' hmv => ?_)
    show wpAny _ A.in1 (ret Value.none) _ _ s'
    rw [List.take_of_length_le (show xs.length ≤ i by omega)] at hS
    exact wpAny_pure (hR s' c (hmv.mono sub) hc (hS.keep fun o e => hmv.heap Z o hw e))
  | succ m ih =>
    intro i s hm hi hst ⟨c, hc, hS⟩ hR
    have lt : i < n := by omega
    refine codeAny_builtin F.entry_set_update_loop ?_
    rw [Around.under_plainId F.plain_set_update_loop _]
    show wpAny _ A.in1 (pyNext (.ref I) >>= _) _ _ s
    refine wpAny_bind (W.item i s _ _ lt hst fun v s' hP hst' hmv => ?_)
    obtain ⟨z, t, hz, rfl⟩ := hval i v hP
    have hS' : SetT P w s'.heap Z (fun j => decide (j ∈ xs.take i)) c := hS.keep fun o e => hmv.heap Z o hw e
    show wpAny _ A.in1 (holding [Value.str z t] (setAdd Z (.str z t)) >>= _) _ _ s'
    refine wpAny_bind (wpAny_holding ?_)
    unfold setAdd
    refine wpAny_holding (wpAny_bind ((PySem.strKind P w).pyHash (k := z) (strKind_is _ _ _ _) ?_))
    refine setT_add (s := { s' with toks := s'.toks + 1 }) hS' (by omega) fun h' hsb hS2 => ?_
    have hS3 : SetT P w h' Z (fun j => decide (j ∈ xs.take (i + 1))) (if decide (z ∈ xs.take i) = true then c else c + 1) := hS2.same fun j => by rw [List.take_add_one, hz]; simp [List.mem_append]
    have hc3 : (if decide (z ∈ xs.take i) = true then c else c + 1) ≤ i + 1 := by split <;> omega
    refine wpAny_pure ⟨plainId_quiet F.plain_set_update_loop _, ih (i + 1) _ (by omega) lt (W.frame _ s' _ _ hst' (Nat.le_succ _) fun b hb o e => ?_) ⟨_, hc3, hS3⟩ fun s'' c2 m2 hc2 hS4 => ?_⟩
    · rw [hsb.2 b (by rintro rfl; exact hZ hb)]; exact e
    · refine hR s'' c2 (Moved.trans W.gtrans ((hmv.mono sub).then_heap (Nat.le_succ _) fun b o hb e => ?_) m2) hc2 hS4
      rw [hsb.2 b (by rintro rfl; exact hb List.mem_cons_self)]; exact e
end
section
variable {prog : Program} {w : World} {A : Around} {E : Value → Shared → Prop} {s : Shared}
theorem set_of_txts {l : Addr} {zs : Array Value} (ks : List Str) {Q : Value → Shared → Prop} (hA : A.handled = none) (hL : s.heap.IsList l zs) (hz : StrsAre zs.toList ks) (bd : ks.length + 1 < scanBound)
    (fin : ∀ (hp : Heap) (tk c0 : Nat), SetT prog w hp s.heap.objs.size (fun j => decide (j ∈ ks)) c0 → c0 ≤ ks.length → (∀ x1 o, s.heap.get? x1 = some o → hp.get? x1 = some o) → Q (.ref s.heap.objs.size) { s with heap := hp, toks := tk }) :
    wpAny (model prog w) A (call (.type "set") [.ref l]) Q E s := by
  have sz0 : zs.size = ks.length := by
    have q := StrsAre.length hz
    rw [Array.length_toList] at q
    exact q
  obtain ⟨c0, tl, m0⟩ := F.called_set.mro
  have m1 := F.called_set.made
  have m2 := F.called_set.sub
  refine wpAny_call (codeAny_of_tree ?_)
  show wpAny _ _ (callAny (.type "set") _) _ _ _
  refine wpAny_pure ⟨Code.quiet_builtin _ (by decide +kernel), codeAny_builtin F.entry_type_call ?_⟩
  rw [Around.under_plain (weight_type_call_type "set" [.ref l] []) rfl]
  have m3 := F.called_set.notType
  have m4 := F.called_set.canCreate
  have m5 := F.typeCall_set_1 (.ref l)
  repeat (any_goals (first | assumption | wp_step))

  refine codeAny_mono (code_set_led1 (.ref l) (E := E) (Q₁ := fun ob s1 => ob = .ref s.heap.objs.size ∧ s1 = { s with heap := s.heap.push { cls := .type "set", dict := none, data := .set #[] 0 (.fresh 0 0 (!w.params.followText "set-order")) } }) ⟨rfl, rfl⟩) fun r s1 hr => ?_
  cases r with
  | error e => exact hr
  | ok fl =>
    cases fl with
    | ret ob =>
      obtain ⟨rfl, rfl⟩ := hr
      have gS : (s.heap.push { cls := .type "set", dict := none, data := .set #[] 0 (.fresh 0 0 (!w.params.followText "set-order")) }).get? s.heap.objs.size = some { cls := .type "set", dict := none, data := .set #[] 0 (.fresh 0 0 (!w.params.followText "set-order")) } := Heap.get?_push_size _ rfl
      have tS : Shared.TypeIs { s with heap := s.heap.push { cls := .type "set", dict := none, data := .set #[] 0 (.fresh 0 0 (!w.params.followText "set-order")) } } (.ref s.heap.objs.size) "set" := ⟨_, gS, rfl⟩
      have m6 := F.called_set.init.lookup
      have m7 := F.called_set.init.bind (.ref s.heap.objs.size)
      repeat (any_goals (first | assumption | wp_step))

      refine codeAny_mono (codeAny_call_builtin (R := wants (fun r s2 => r = .none ∧ ∃ hp tk c0, s2 = { s with heap := hp, toks := tk } ∧ SetT prog w hp s.heap.objs.size (fun j => decide (j ∈ ks)) c0 ∧ c0 ≤ ks.length ∧
          (∀ x1 o, s.heap.get? x1 = some o → hp.get? x1 = some o)) E) F.called_set.init.plain F.entry_set_init (check_set_init_1 tS ?_)) fun r2 s2 hr2 => ?_
      · obtain ⟨o1, go, gc, n1, gd⟩ := hL
        obtain ⟨oc, od, oa, os1⟩ := o1
        simp only at gc gd
        subst gc; subst gd
        have go2 : (s.heap.push { cls := .type "set", dict := none, data := .set #[] 0 (.fresh 0 0 (!w.params.followText "set-order")) }).get? l = some { cls := .type "list", dict := od, data := .seq zs n1, slots := os1 } := Heap.get?_push_of_some _ go
        have m8 := F.sub_list_set
        have m9 := F.sub_list_frozenset
        have mA : (Value.type "list" == Value.type "dict") = false := by decide
        have gl1 : (s.heap.push { cls := .type "set", dict := none, data := .set #[] 0 (.fresh 0 0 (!w.params.followText "set-order")) }).IsList l zs := ⟨_, go2, rfl, n1, rfl⟩
        unfold Builtin.«set.__init__» noKeywords Builtin.Frozenset.updateFrom
        generalize gP : pyIter = PI
        wp_walk
        subst gP

        refine wpAny_pyIter_list gl1 ?_
        refine wpAny_bind (wpAny_runValue ?_)
        have lS : l < s.heap.objs.size := Heap.lt_size go
        have mB : A.in1.in1.in1.handled = none := by simp [hA]
        have mC : (s.heap.push { cls := .type "set", dict := none, data := .set #[] 0 (.fresh 0 0 (!w.params.followText "set-order")) }).objs.size = s.heap.objs.size + 1 := Heap.size_push ..
        have mD : l ≠ (s.heap.push { cls := .type "set", dict := none, data := .set #[] 0 (.fresh 0 0 (!w.params.followText "set-order")) }).objs.size := by
          rw [Heap.size_push]; exact Nat.ne_of_lt (Nat.lt_succ_of_lt lS)
        have mE : s.heap.objs.size ∉ [(s.heap.push { cls := .type "set", dict := none, data := .set #[] 0 (.fresh 0 0 (!w.params.followText "set-order")) }).objs.size, l] := by
          rw [Heap.size_push]; simp only [List.mem_cons, List.mem_singleton, List.not_mem_nil, or_false, not_or]
          exact ⟨Nat.ne_of_lt (Nat.lt_succ_self _), Nat.ne_of_gt lS⟩
        have gv : ∀ (i : Nat) (v : Value), zs[i]? = some v → ∃ k t, ks[i]? = some k ∧ v = .str k t := fun i v hv => by
          have hi : i < ks.length := by rw [← sz0]; exact (Array.getElem?_eq_some_iff.mp hv).1
          obtain ⟨t, e⟩ := txts_at hz i v (by rw [Array.getElem?_toList]; exact hv)
          refine ⟨ks[i], t, List.getElem?_eq_getElem hi, ?_⟩
          rw [e, List.getD_eq_getElem?_getD, List.getElem?_eq_getElem hi] <;> rfl
        refine set_update_txts ((Walks.list mB _ l mD zs).toS) s.heap.objs.size
          mE ks sz0 bd gv (zs.size - 0) 0 _ (by omega) (Nat.zero_le _)
          ⟨⟨_, Heap.get?_push_size _ rfl, rfl, rfl⟩, (gl1.push _)⟩ ?hS0 ?hR
        case hS0 =>
          have gg : ((s.heap.push { cls := .type "set", dict := none, data := .set #[] 0 (.fresh 0 0 (!w.params.followText "set-order")) }).push { cls := .type "list_iterator", data := .fields #[.ref l, .int 0 0] }).get? s.heap.objs.size
              = some { cls := .type "set", dict := none, data := .set #[] 0 (.fresh 0 0 (!w.params.followText "set-order")) } := Heap.get?_push_of_some _ gS
          exact ⟨0, Nat.le_refl 0, setT_new gg⟩
        case hR =>
          intro s3 c3 mv lc2 gS2
          obtain ⟨hp, g3, d3, t3, o3⟩ := s3
          have e1 : g3 = s.gens := mv.gens
          have e2 : d3 = s.drawn := mv.drawn
          have e3 : o3 = s.os := mv.os
          subst e1; subst e2; subst e3
          show wpAny _ _ _ _ _ _
          refine wpAny_pure ?_
          show wpAny _ _ (ret Value.none) _ _ _
          rw [sz0] at lc2
          refine wpAny_pure ⟨rfl, hp, t3, c3, rfl, gS2, lc2, fun x1 o e => ?_⟩
          have b0 : x1 < s.heap.objs.size := Heap.lt_size e
          have b1 : x1 ≠ s.heap.objs.size := Nat.ne_of_lt b0
          have b2 : x1 ≠ (s.heap.push { cls := .type "set", dict := none, data := .set #[] 0 (.fresh 0 0 (!w.params.followText "set-order")) }).objs.size := by
            rw [Heap.size_push]; exact Nat.ne_of_lt (Nat.lt_succ_of_lt b0)
          exact mv.heap x1 o (by simp only [List.mem_cons, List.mem_singleton, List.not_mem_nil, or_false, not_or]; exact ⟨b1, b2⟩) (Heap.get?_push_of_some _ (Heap.get?_push_of_some _ e))

      · cases r2 with
        | error e => exact hr2
        | ok fl2 =>
          cases fl2 with
          | ret r =>
            obtain ⟨rfl, hp, tk, c3, rfl, gS2, lc2, kp2⟩ := hr2
            repeat (any_goals (first | assumption | wp_step))
            exact fin _ _ _ gS2 lc2 kp2
          | _ => exact hr2.elim
    | _ => exact hr.elim

end
section
variable {P : Program} {w : World} {A : Around} {E : Value → Shared → Prop} {s : Shared} {a : Addr}
theorem txts_of : ∀ (l : List Value), (∀ v ∈ l, ∃ k tk, v = Value.str k tk) → StrsAre l (l.map PyProof.Rows.strOf)
  | [], _ => .nil
  | v :: l, h => by
    obtain ⟨k, tk, rfl⟩ := h v List.mem_cons_self
    exact .cons k tk (txts_of l fun u hu => h u (List.mem_cons_of_mem _ hu))
theorem sorted_setT {S : Str → Bool} {n : Nat} {Q : Value → Shared → Prop} (R : SetT P w s.heap a S n) (hh : A.handled = none) (h64 : n < 64)
    (hQ : ∀ s' p (out : Array Value) (c : Nat) (ns : List Str), (∀ b o, s.heap.get? b = some o → s'.heap.get? b = some o) → s'.gens = s.gens → s'.os = s.os → s.heap.objs.size ≤ p → s'.heap.get? p = some (seqObj "list" out c) → StrsAre out.toList ns → sortedS ns = true → ns.Nodup → (∀ k, k ∈ ns ↔ S k = true) → ns.length = n → Q (.ref p) s') :
    wpAny (model P w) A (call (.builtin "sorted") [.ref a]) Q E s := by
  obtain ⟨o, es, ep, t, ho, hex, hd, g, nd, hm, hb, hf, hn, hr, hl⟩ := R
  refine Calls.call_function_entry kind_sorted plain_sorted entry_sorted (args_sorted1 _) ?_
  unfold Builtin.«sorted»
  refine wpAny_bind (m := checkCount "sorted" 1 1 _) (wpAny_pure (wpAny_bind (collect_set (A := A.in1) hh ⟨o, ho, hex.1, hd⟩ hf hb hr hl fun s1 vs k1 hz g1 o1 pm => ?_)))
  have lv : vs.length = n := by rw [pm.length_eq, List.length_map, Array.length_toList, hn]
  have hI := txts_of vs fun v hv => by
    obtain ⟨e, he, q⟩ := List.mem_map.mp (pm.mem_iff.mp hv)
    obtain ⟨k, tk, h1, _⟩ := g e he
    exact ⟨k, tk, q ▸ h1⟩
  have pk : (vs.map PyProof.Rows.strOf).Perm (es.toList.map txtOf) := by
    have q := pm.map PyProof.Rows.strOf
    rw [List.map_map] at q
    refine q.trans (List.Perm.of_eq (List.map_congr_left fun e he => ?_))
    obtain ⟨k, tk, h1, _⟩ := g e he
    show PyProof.Rows.strOf e.2 = txtOf e
    unfold txtOf
    rw [h1]; rfl
  refine wpAny_bind (wpAny_newList ?_ (by rw [lv, sizeLine_eq]; omega))
  have hoL : (s1.heap.push (seqObj "list" vs.toArray 0)).get? s1.heap.objs.size = some (seqObj "list" vs.toArray 0) := Heap.get?_push_size _ rfl
  refine wpAny_bind (wpAny_holding (wpAny_call_entry slot_list_sort ⟨_, hoL, rfl⟩ entry_list_sort (list_sort_treeK strKind_oneLt hoL hI.keysOf (fun v₁ v₂ rest e => keyKind_strs (by rw [← e]; exact hI)) (by rw [lv]; exact h64) fun st' hp hs => ⟨_, rfl, ?_⟩) (args_list_sort _)))
  obtain ⟨ns, a1, a2, a3⟩ := sorted_out_str hI hp hs
  obtain ⟨c, hc⟩ := sortedHeap_at (vs := vs) (out := (arrOf st').map (·.2)) hoL
  have pn : ns.Perm (es.toList.map txtOf) := a2.trans pk
  refine wpAny_pure ⟨_, rfl, hQ _ s1.heap.objs.size _ c ns (fun b u e => ?_) g1 o1 hz hc a1 a3 (pn.nodup_iff.mpr nd) (fun k => by rw [pn.mem_iff, ← hm k]) (by rw [pn.length_eq, List.length_map, Array.length_toList, hn])⟩
  have q := k1 b u e
  have lt := Heap.lt_size q
  show (sortedHeap (s1.heap.push (seqObj "list" vs.toArray 0)) s1.heap.objs.size vs _).get? b = some u
  rw [sortedHeap_old (Nat.ne_of_lt lt) (by rw [size_push']; exact Nat.lt_succ_of_lt lt)]
  exact Heap.get?_push_of_some _ q
end
end
end PL

set_option linter.all false
set_option maxRecDepth 100000
set_option maxHeartbeats 4000000
/-! PL22: sorted(set(xs)) of ints or of texts. -/
namespace PL
open PySem PySem.Spec L2
variable {wW : World}
def insS (x : Str) : List Str → List Str
  | [] => [x]
  | y :: ys => if x = y then y :: ys else if leS x y = true then x :: y :: ys else y :: insS x ys
def uniqS (xs : List Str) : List Str := xs.foldr insS []
def LtS (a b : Str) : Prop := leS a b = true ∧ a ≠ b
theorem LtS.trans {a b c : Str} (h1 : LtS a b) (h2 : LtS b c) : LtS a c := ⟨leS_trans a b c h1.1 h2.1, fun e => by subst e; exact h1.2 (leS_anti h1.1 h2.1)⟩
theorem ltS_of {a b : Str} (h : ¬leS a b = true) : LtS b a := by
  have := leS_total a b
  rw [Bool.or_eq_true] at this
  exact ⟨this.resolve_left h, fun e => by subst e; exact h (by simpa using leS_total b b)⟩
theorem mem_insS (x k : Str) : ∀ l : List Str, k ∈ insS x l ↔ k = x ∨ k ∈ l
  | [] => by simp [insS]
  | y :: ys => by
    unfold insS
    by_cases h : x = y
    · rw [if_pos h]; subst h; simp
    · rw [if_neg h]
      split
      · simp
      · rw [List.mem_cons, mem_insS x k ys, List.mem_cons]
        exact or_left_comm
theorem pair_insS (x : Str) : ∀ {l : List Str}, l.Pairwise LtS → (insS x l).Pairwise LtS
  | [], _ => by simp [insS]
  | y :: ys, h => by
    obtain ⟨h1, h2⟩ := List.pairwise_cons.mp h
    unfold insS
    by_cases e : x = y
    · rw [if_pos e]; exact h
    · rw [if_neg e]
      split
      · rename_i hl
        refine List.pairwise_cons.mpr ⟨fun z hz => ?_, h⟩
        rcases List.mem_cons.mp hz with rfl | hz
        · exact ⟨hl, e⟩
        · exact LtS.trans ⟨hl, e⟩ (h1 z hz)
      · rename_i hl
        refine List.pairwise_cons.mpr ⟨fun z hz => ?_, pair_insS x h2⟩
        rcases (mem_insS x z ys).mp hz with rfl | hz
        · exact ltS_of hl
        · exact h1 z hz
theorem mem_uniqS (k : Str) : ∀ xs : List Str, k ∈ uniqS xs ↔ k ∈ xs
  | [] => Iff.rfl
  | x :: xs => by
    show k ∈ insS x (uniqS xs) ↔ _
    rw [mem_insS, mem_uniqS k xs, List.mem_cons]
theorem pair_uniqS : ∀ xs : List Str, (uniqS xs).Pairwise LtS
  | [] => List.Pairwise.nil
  | x :: xs => pair_insS x (pair_uniqS xs)
theorem strictS_eq {l m : List Str} (h1 : l.Pairwise LtS) (h2 : m.Pairwise LtS) (h : ∀ k, k ∈ l ↔ k ∈ m) : l = m := by
  have nd : ∀ {l : List Str}, l.Pairwise LtS → l.Nodup := fun h => h.imp fun h => h.2
  exact List.Perm.eq_of_pairwise (le := LtS) (fun a b _ _ h1 h2 => leS_anti h1.1 h2.1) h1 h2 ((List.perm_ext_iff_of_nodup (nd h1) (nd h2)).mpr h)
theorem pair_lt : ∀ {l : List Str}, l.Pairwise (fun a b => leS a b = true) → l.Nodup → l.Pairwise LtS
  | [], _, _ => List.Pairwise.nil
  | x :: l, h, d => by
    obtain ⟨h1, h2⟩ := List.pairwise_cons.mp h
    obtain ⟨d1, d2⟩ := List.nodup_cons.mp d
    exact List.pairwise_cons.mpr ⟨fun y hy => ⟨h1 y hy, fun e => d1 (e ▸ hy)⟩, pair_lt h2 d2⟩
def ssetA (d : D) : M D := match d with
  | .lst ds => guardM (decide (ds.length < 64)) (match intsD ds with
    | some ns => M.pure (.lst ((uniqI ns).map D.int))
    | none => (opt (strsD ds)).bind fun xs => M.pure (.lst ((uniqS xs).map D.str)))
  | _ => M.bad
section
variable {X : Cx} {E : XK} {H0 : Hp} {a : Expr} {f : En → M D} {pos p p2 q : Pos}
def SetTO (P : Program) (w : World) (a : Addr) (S : Str → Bool) (n : Nat) : HO := .ext fun h => SetT P w h a S n
theorem setTO_new {P : Program} {w : World} {H : Hp} {h : Heap} {a : Addr} {S : Str → Bool} {n : Nat} (R : SetT P w h a S n) : ObjOk P w H h a (SetTO P w a S n) := by
  have ⟨o, _, _, _, ho, _⟩ := R
  exact ⟨R, ⟨o, ho⟩, fun h1 h2 p k => SetT.keep p k⟩
theorem setTO_get {pins : List (Addr × Obj)} {σ : L2.St} {H : Hp} {s : Shared} {a : Addr} {S : Str → Bool} {n : Nat} (I : Inv X pins σ H s) (ha : H a = some (SetTO X.prog X.w a S n)) : SetT X.prog X.w s.heap a S n := (I.hok a _ ha).1
def rSetT (K : PySem.W.Frag) (P : Program) (w : World) : List V → Hp → VK → Prop := fun xs H Q => ∃ (p : Addr) (ns : List Str), xs = [V.ref p] ∧ SqL K H p (ns.map V.str) ∧ ns.length < 64 ∧ ∀ (l : Addr) (c : Nat), H l = none → c ≤ ns.length → Q (.ref l) (upd H l (SetTO P w l (fun j => decide (j ∈ ns)) c))
theorem cr_setT (hc : X.calm = true) : CallR X (.type "set") (rSetT X.K X.prog X.w) := by
  intro pins s σ H vs us Q I r h
  obtain ⟨l, ns, rfl, hs, h64, k⟩ := h
  obtain ⟨its, rv, hl, _⟩ := I.list hs
  rw [Vals.ref1 r]
  refine set_of_txts ns (I.ok.hd hc) hl.isList (by simpa using rv.strs) (by unfold scanBound; omega) fun h' tk c R hcn kp => ?_
  exact ⟨.ref _, upd H s.heap.objs.size (SetTO X.prog X.w s.heap.objs.size (fun j => decide (j ∈ ns)) c), I.laid (t' := tk) kp (Nat.le_refl _) (setTO_new R), rfl, k _ c (I.hok.fresh (Nat.le_refl _)) hcn⟩
def rSortT (P : Program) (w : World) : List V → Hp → VK → Prop := fun vs H Q => ∃ (a : Addr) (S : Str → Bool) (n : Nat), vs = [V.ref a] ∧ H a = some (SetTO P w a S n) ∧ n < 64 ∧ ∀ (ns : List Str) (p : Addr), PyProof.Rows.sortedS ns = true → ns.Nodup → (∀ k, k ∈ ns ↔ S k = true) → ns.length = n → H p = none → Q (.ref p) (upd H p (.lst (ns.map V.str)))
theorem cr_sortT (hc : X.calm = true) : CallR X (.builtin "sorted") (rSortT X.prog X.w) := by
  intro pins s σ H vs us Q I r h
  obtain ⟨a, S, n, rfl, ha, h64, q⟩ := h
  rw [Vals.ref1 r]
  refine sorted_setT (setTO_get I ha) (I.ok.hd hc) h64 fun s' p out c ns k g o hp hg hi hs hnd hm hl => ?_
  have hlen : (ns.map V.str).length ≤ sizeLine := by rw [List.length_map, hl, sizeLine_eq]; omega
  have hn : H p = none := I.hok.fresh hp
  have J : Inv X pins σ (upd H p (.lst (ns.map V.str))) { s with heap := s'.heap, gens := s'.gens, drawn := s'.drawn, toks := s'.toks } :=
    I.call (ch := []) (Un.laid k hp hn) (I.hok.laid k hp ⟨hlen, out.toList, c, vals_of_strs hi, hg⟩) (by rw [g]; exact I.bare) (fun _ z => nomatch z)
  have e : s' = { s with heap := s'.heap, gens := s'.gens, drawn := s'.drawn, toks := s'.toks } := by
    cases s'; cases s; cases o; rfl
  rw [e]
  exact ⟨.ref p, _, J, rfl, q ns p hs hnd hm hl hn⟩
theorem je_sset2 (hc : X.calm = true) (hg : Gl X "sorted") (hm : X.mg "sorted" = none) (hg2 : Gl X "set") (hm2 : X.mg "set" = none) (ha : JB X E H0 f a)
    (hs : starEach [a] X.env = (false, eval a X.env) :: starEach [] X.env := by rfl) (hs2 : starEach [.Call (.Name "set" p2) [a] [] q] X.env = (false, eval (.Call (.Name "set" p2) [a] [] q) X.env) :: starEach [] X.env := by rfl) :
    JE X E H0 (e1 ssetA f) (.Call (.Name "sorted" p) [.Call (.Name "set" p2) [a] [] q] [] pos) := by
  refine PE.imp (pe_callB ((cr_sortedSet hc).or (cr_sortT hc)) hg hm (by decide +kernel) (pa_one (pe_callTy ((cr_setI hc).or (cr_setT hc)) hg2 hm2 (by decide +kernel) (pa_one ha hs) (by decide) (by decide) hs rfl) hs2) (by decide) (by decide) hs2 rfl) fun σ H Q ⟨G, μ, st, ρ, w, er, k⟩ => ?_
  refine ⟨G, μ, st, ρ, w, er, Post.bind k fun d st1 x H1 G1 μ1 w1 s1 r1 k1 => ?_⟩
  cases d with
  | lst ds =>
    have k1' : Post X.w X.K X.mg E (rRep X.K) H1 G1 μ1 ((guardM (decide (ds.length < 64)) (match intsD ds with
      | some ns => M.pure (.lst ((uniqI ns).map D.int))
      | none => (opt (strsD ds)).bind fun xs => M.pure (.lst ((uniqS xs).map D.str)))) st1) Q := k1
    obtain ⟨c, k1⟩ := Post.guard k1'
    have c := of_decide_eq_true c
    obtain ⟨l, vs, rfl, hl, r⟩ := r1.weak.lst w1.imm
    cases hi : intsD ds with
    | some ns =>
      rw [hi] at k1
      have e := ints_rep r hi
      subst e
      have hlen : ns.length < 64 := by rw [intsD_len hi]; exact c
      refine .inl ⟨l, ns, rfl, .inl (.inl hl), hlen, fun t n ht hn => .inl ?_⟩
      obtain ⟨w2, s2⟩ := w1.lay (o := SetO X.w t (fun j => decide (j ∈ ns)) n) ht
      refine ⟨t, _, n, rfl, upd_same, by omega, fun ns' p2 hp hmem hlen' hn2 => ?_⟩
      have e : ns' = uniqI ns := strict_eq hp (pair_uniqI ns) fun k => by rw [mem_uniqI, hmem]; simp
      subst e
      obtain ⟨w3, s3⟩ := w2.new (o := .lst ((uniqI ns).map V.int)) hn2
      exact k1 _ _ _ _ w3 (s2.trans s3) (.lst upd_same (rep_ints _))
    | none =>
      rw [hi] at k1
      obtain ⟨ns, hi2, k1⟩ := Post.opt k1
      have e := strs_rep r hi2
      subst e
      have hlen : ns.length < 64 := by rw [strsD_len hi2]; exact c
      refine .inr ⟨l, ns, rfl, .inl (.inl hl), hlen, fun t n ht hn => .inr ?_⟩
      obtain ⟨w2, s2⟩ := w1.lay (o := SetTO X.prog X.w t (fun j => decide (j ∈ ns)) n) ht
      refine ⟨t, _, n, rfl, upd_same, by omega, fun ns' p2 hp hnd hmem hlen' hn2 => ?_⟩
      have e : ns' = uniqS ns := strictS_eq (pair_lt (pairS hp) hnd) (pair_uniqS ns) fun k => by rw [mem_uniqS, hmem]; simp
      subst e
      obtain ⟨w3, s3⟩ := w2.new (o := .lst ((uniqS ns).map V.str)) hn2
      exact k1 _ _ _ _ w3 (s2.trans s3) (.lst upd_same (rep_strs _))
  | _ => exact k1.elim
end
end PL

set_option linter.all false
set_option maxRecDepth 100000
set_option maxHeartbeats 4000000
/-! PL23: defs with lambdas; own exceptions and what hears, from what the top has written; the law's start with its tables. -/
namespace PL
open PySem PySem.Spec L2
variable {wW : World}
/-- a def whose code object stands at c -/
structure FnL (K : PySem.W.Frag) (mg : Str → Option Value) (x : Str) (st : Stmt) (ps : List Str) (c : Addr) : Prop where
  ex : ∃ (fa : Addr) (oc kV doc pm ct : Value) (od an : Option Addr) (osl : Array (Option Value)), K.lookup fa = some ⟨oc, od, .func (PySem.W.fnOf x x (defArgs st) (defBody st) (defScope st) .none kV doc pm an (.ref c) ct), osl⟩ ∧ PySem.W.codeIn K (.ref c) x = true ∧ PySem.W.keepIn K (.ref fa) = true ∧
    mg x = some (.ref fa) ∧ ∀ us : List Value, us.length = ps.length → bindArgs (PySem.W.fnOf x x (defArgs st) (defBody st) (defScope st) .none kV doc pm an (.ref c) ct) ⟨us, []⟩ = pure (ps.zip us)
theorem own_defL {P : Program} {w : World} {K : PySem.W.Frag} {mg : Str → Option Value} {base : Heap} {k : Nat} {x : Str} {st : Stmt} {N ps : List Str} {c : Addr} {f : En → M (Fl × En)} (F : FnL K mg x st ps c) (S : FnScope N ps (defScope st))
    (body : ∀ (fa : Addr) (A : Around) (outer : List Env) (s : Shared) (H G : Hp) (μ : Mu) (E : XK), Room k (A.deeper (PyProof.Rows.envOfC x (defScope st) s.heap.objs.size fa (.ref c))) →
      JSs (cxOf (L2.CX P w) P w K mg base N x (defScope st) fa (.ref c) A outer s H E) E ⟨H, G, μ⟩ f (defBody st)) :
    Own P w K mg base (k + 1) x ps (runB N.length f) := by
  obtain ⟨fa, oc, kV, doc, pm, ct, od, an, osl, lk, hcd, kp, m, b⟩ := F.ex
  refine ⟨fa, _, fn_of lk hcd S (fun vs H Q E h => ?_) (fun A outer s H vs Q E hr h => ?_), m, kp, b, ⟨_, _, _, lk⟩⟩
  · obtain ⟨G, μ, st, ds, _, r, l, _⟩ := h
    rw [RepL.length r, l]
  · obtain ⟨G, μ, st0, ds, wd, r, l, q⟩ := h
    refine ⟨_, body fa A outer s H G μ E hr, G, μ, st0, _, wd, er_start (N := N) r, .refl, ?_⟩
    unfold runB M.bind at q
    cases e : f (ds.map Slot.val ++ List.replicate (N.length - ds.length) Slot.no) st0 with
    | ok a st' =>
      rw [e] at q
      obtain ⟨fl, ρ'⟩ := a
      intro σ' H' G' μ' w' er' s'
      cases fl with
      | nx => exact q .non H' G' μ' w' s' .non
      | ret d => exact fun v rv => q v H' G' μ' w' s' rv
      | brk => exact q.elim
      | ct => exact q.elim
    | err x st' =>
      rw [e] at q
      exact q
    | bad => rw [e] at q; exact q
section
variable {K : PySem.W.Frag} {h : Heap} {mg : Str → Option Value}
theorem fnL_of {x : Str} {st : Stmt} {f c : Addr} {oc : Value} {od an : Option Addr} {osl : Array (Option Value)} {kV doc pm ct : Value} (X : K.In h) (N : h.Ns mainGlobals mg) (ps : List Str) (a : PySem.W.nsIn K mainGlobals x = some (some (.ref f)))
    (l : K.lookup f = some ⟨oc, od, .func (PySem.W.fnOf x x (defArgs st) (defBody st) (defScope st) .none kV doc pm an (.ref c) ct), osl⟩) (cc : PySem.W.codeIn K (.ref c) x = true) (k : PySem.W.keepIn K (.ref f) = true)
    (hb : ∀ (kV doc pm : Value) (an : Option Addr) (cdv ct : Value) (us : List Value), us.length = ps.length → bindArgs (PySem.W.fnOf x x (defArgs st) (defBody st) (defScope st) .none kV doc pm an cdv ct) ⟨us, []⟩ = pure (ps.zip us)) : FnL K mg x st ps c :=
  ⟨f, oc, kV, doc, pm, ct, od, an, osl, l, cc, k, PySem.W.mg_of X N a, hb _ _ _ _ _ _⟩
/-- an own exception class -/
theorem xc_of {P : Program} {w : World} {base : Heap} {x qual f g : Str} {st : Stmt} {C fI : Addr} {oc kV doc pm cdv ct : Value} {od an : Option Addr} {osl : Array (Option Value)} (X : K.In h) (Ns : h.Ns mainGlobals mg) (T : OexC K C)
    (a : PySem.W.nsIn K mainGlobals x = some (some (.ref C))) (iC : PySem.W.findIn K (.ref C) "__init__" = some (some (.ref fI))) (tI : PySem.W.typeIn K (.ref fI) = some (.type "function"))
    (l : K.lookup fI = some ⟨oc, od, .func (PySem.W.fnOf "__init__" qual (defArgs st) (defBody st) (defScope st) .none kV doc pm an cdv ct), osl⟩) (cc : PySem.W.codeIn K cdv qual = true) (kp : PySem.W.keepIn K (.ref fI) = true)
    (hf : PySem.W.findIn K (.ref C) f = some none) (hg : PySem.W.findIn K (.ref C) g = some none) (ga : PySem.W.findIn K (.ref C) "__getattribute__" = some (some (.builtin "BaseException.__getattribute__"))) (gg : PySem.W.findIn K (.ref C) "__getattr__" = some none) (hd : PySem.W.hasDictIn K C = true)
    (ex : PySem.W.exmOne K (.ref C) (.ref C) = some true) (S : FnScope ["self", f, g] ["self", f, g] (defScope st)) {p1 p2 p3 p4 p5 p6 p7 p8 : Pos}
    (hb : defBody st = [.Assign [.Attribute (.Name "self" p1) f p2] (.Name f p3) p4, .Assign [.Attribute (.Name "self" p5) g p6] (.Name g p7) p8])
    (vs : Vis (defScope st) "self") (vf : Vis (defScope st) f) (vg : Vis (defScope st) g) (df : (f == ("__debug__" : Str)) = false) (dg : (g == ("__debug__" : Str)) = false) (cf : (f == ("__classdict__" : Str)) = false) (cg : (g == ("__classdict__" : Str)) = false)
    (bi : ∀ (kV doc pm : Value) (an : Option Addr) (cdv ct : Value) (us : List Value), us.length = 3 → bindArgs (PySem.W.fnOf "__init__" qual (defArgs st) (defBody st) (defScope st) .none kV doc pm an cdv ct) ⟨us, []⟩ = pure ((["self", f, g] : List Str).zip us)) : Xc P w K mg base x f g := by
  have F : L2.Fun K "__init__" qual st fI _ := fun_mk l cc kp
  exact ⟨C, fI, _, T, iC, tI, init_two F S T hf hg hb vs vf vg df dg cf cg, PySem.W.mg_of X Ns a, .all (bi _ _ _ _ _ _), ⟨ga, gg, T.exC, hd⟩, hf, hg, ex⟩
end
/-- what hears, from what the top has written -/
theorem hears_of {P : Program} {w : World} {K : PySem.W.Frag} {h : Heap} {mg : Str → Option Value} {base : Heap} {x a e cx f g : Str} {st : Stmt} {gd CS : Addr} {oc : Value} {od an : Option Addr} {osl : Array (Option Value)} {kV doc pm cdv ct : Value} (X : K.In h) (N : h.Ns mainGlobals mg) (R : Xc P w K mg base cx f g) (hm : mg cx = some (.ref CS))
    (a0 : PySem.W.nsIn K mainGlobals x = some (some (.ref gd))) (l : K.lookup gd = some ⟨oc, od, .func (PySem.W.fnOf x x (defArgs st) (defBody st) (defScope st) .none kV doc pm an cdv ct), osl⟩) (cc : PySem.W.codeIn K cdv x = true) (k : PySem.W.keepIn K (.ref gd) = true)
    (S : FnScope [a, e] [a] (defScope st)) (hva : Vis (defScope st) a) (hne : ([a, e] : List Str).Nodup) (hle : (defScope st).names.lookup e = some .local) (hee : (e == ("__debug__" : Str)) = false) (hec : (e == ("__classdict__" : Str)) = false) (hge : (defScope st).names.lookup cx = some .globalImplicit) (hde : (cx == ("__debug__" : Str)) = false)
    {j j2 k1 k2 : Nat} {p1 p2 p3 p4 p5 p6 p7 p8 p9 p10 p11 p12 p13 p14 p15 : Pos}
    (hb : defBody st = [.Try [.Return (some (.Tuple [.Constant (.str "gave") j p5, .Call (.Name a p1) [] [] p2] k1 p6)) p3]
      [.ExceptHandler (some (.Name cx p4)) (some e) [.Return (some (.Tuple [.Constant (.str cx) j2 p9, .Attribute (.Name e p10) f p11, .Attribute (.Name e p12) g p13] k2 p14)) p15] p7] [] [] p8])
    (bi : ∀ (kV doc pm : Value) (an : Option Addr) (cdv ct : Value) (us : List Value), us.length = 1 → bindArgs (PySem.W.fnOf x x (defArgs st) (defBody st) (defScope st) .none kV doc pm an cdv ct) ⟨us, []⟩ = pure ([a].zip us)) : Hears P w K mg x a (tHear CS cx f g) := by
  obtain ⟨C, fI, fd, T, iC, tI, F1, hm2, hb2, xf, hf, hg, ex⟩ := R.ex
  rw [hm] at hm2; cases hm2
  refine ⟨gd, defArgs st, defBody st, defScope st, .none, kV, doc, pm, cdv, ct, oc, an, od, osl, [a, e], PySem.W.mg_of X N a0, k, l, cc, .all (bi _ _ _ _ _ _), S, rfl, hva, fun X' q e1 e2 e3 e4 => ?_⟩
  subst e1 e2 e3 e4
  rw [hb]
  exact hear_gives xf hf hg ex hge hm hde hne hle hee hec

/-! ### the law's start -/
def tabS (cs : List (Str × Addr × Addr)) : Sto := cs.map fun p => .tab p.2.2 (lq p.1)
def muT (cs : List (Str × Addr × Addr)) : Mu := fun n => (cs[n]?).map (·.2.2)
def spLawT (K : PySem.W.Frag) (cs : List (Str × Addr × Addr)) : Sp := fun vs H Q _ => ∃ (a : Addr) (ns : List Int), vs = [.ref a] ∧ SqL K H a (ns.map V.int) ∧ ns.length ≤ 63 ∧ (∀ p ∈ cs, H p.2.2 = some (.tbl #[])) ∧ ∀ H', Q (.bl true) H'
section
variable {K : PySem.W.Frag} {mg : Str → Option Value}
theorem law_endT {P : Program} {w : World} {base : Heap} {k : Nat} {fa : Addr} {fd : FuncData} {x : Str} {m : List D → M D} (cs : List (Str × Addr × Addr)) (nd : (cs.map (·.2.2)).Nodup) (F : FnOk P w K mg base (L2.CX P w) k fa fd [x] (SpOf w K mg 1 m)) (hm : ∀ ns : List Int, ns.length ≤ 63 → ∃ st, m [.frz (ns.map D.int)] (tabS cs) = .ok (.bl true) st) :
    FnOk P w K mg base (L2.CX P w) k fa fd [x] (spLawT K cs) := F.imp fun vs H Q E ⟨a, ns, e, hs, hl, ht, q⟩ => by
  subst e
  obtain ⟨st, hst⟩ := hm ns hl
  have hG : ∀ b o, (match H b with | some (.tbl _) => none | o => o) = some o → H b = some o := fun b o z => by
    cases e : H b with
    | none => rw [e] at z; cases z
    | some u =>
      rw [e] at z
      cases u <;> first | exact z | cases z
  have hT : ∀ b o, H b = some o → (∀ ps, o ≠ .tbl ps) → (match H b with | some (.tbl _) => none | o => o) = some o := fun b o e n => by
    rw [e]
    cases o <;> first | rfl | exact absurd rfl (n _)
  refine ⟨fun b => match H b with | some (.tbl _) => none | o => o, muT cs, tabS cs, [.frz (ns.map D.int)], ⟨hG, fun n o h => ?_, fun n m a h1 h2 => ?_, fun n a h => ?_⟩, .cons (.frz (hs.imp (fun r => r.imp (fun e => hT _ _ e fun _ z => nomatch z) fun ⟨o, e⟩ => ⟨o, hT _ _ e fun _ z => nomatch z⟩) id) (rep_ints ns)) .nil, rfl, ?_⟩
  · unfold tabS at h
    rw [List.getElem?_map] at h
    cases e : cs[n]? with
    | none => rw [e] at h; cases h
    | some p =>
      rw [e] at h
      cases h
      have hp := ht p (List.mem_of_getElem? e)
      exact ⟨p.2.2, by unfold muT; rw [e]; rfl, by rw [hp], rfl, #[], hp, trivial, fun pos cv hc => by simp [codeAmong] at hc⟩
  · unfold muT at h1 h2
    rw [← List.getElem?_map] at h1 h2
    exact (List.getElem?_inj (List.getElem?_eq_some_iff.mp h1).1 nd).mp (h1.trans h2.symm)
  · unfold muT at h
    cases e : cs[n]? with
    | none => rw [e] at h; cases h
    | some p => unfold tabS; rw [List.length_map]; exact (List.getElem?_eq_some_iff.mp e).1
  · rw [hst]
    intro v H' G' μ' _ _ r
    cases r
    exact q H'
/-- a table of the head -/
theorem tab_at {q : Program} {loose : List Str} {mean : ExcName → Option Value} {mb : Str → Option Value} {h : Heap} {x : Str} {f c P : Addr} {oc fc : Value} {od ad : Option Addr} {osl asl : Array (Option Value)} {fd : FuncData} {vs : Array Value} (T : PyProof.Rows.Top q loose mean mg mb h) (X : K.In h)
    (hx : ((PyProof.Rows.recsOf q).any fun e => e.name == x) = true) (a : PySem.W.nsIn K mainGlobals x = some (some (.ref f))) (l : K.lookup f = some ⟨oc, od, .func fd, osl⟩) (hc : fd.code = .ref c) (lc : K.lookup c = some ⟨fc, ad, .fields vs, asl⟩) (hv : vs[11]? = some (.ref P)) :
    PySem.W.CodeHd h c P ∧ h.get? P = some { cls := .none, data := .fields #[] } := by
  obtain ⟨d, hm, hn⟩ := List.any_eq_true.mp hx
  obtain ⟨a', o', fd', c', P', h1, h2, h3, h4, h5, h6⟩ := T.tab d hm
  rw [beq_iff_eq.mp hn, PySem.W.mg_of X T.g a] at h1
  cases h1
  rw [X _ _ l] at h2; cases h2
  cases h3
  rw [hc] at h4; cases h4
  obtain ⟨⟨ob, us, g1, g2, g3, g4⟩, g5⟩ := id h6
  rw [X _ _ lc] at g1; cases g1
  cases g3
  rw [hv] at g4; cases g4
  exact ⟨PySem.W.CodeHd.of h5 h6, g5⟩
end
theorem walk_tabs {l : PySem.W.OpenLaw} {n k : Nat} {q : Program} {loose : List Str} {XP : (Str → Option Value) → Heap → Prop} {YP : World → Heap → Prop} {d : DefRec} {K : Params → PySem.W.Frag} {CX : World → CXT} {x : Str}
    (hn : l.most = some n) (hn2 : n ≤ sizeLine) (hdf : d.params.defaults = []) (hr : Room k callerA) (hY : ∀ (w : World) (h : Heap), YP w h → (K w.params).In h)
    (F : ∀ (w : World) (mg : Str → Option Value) (fa : Addr) (h : Heap), (K w.params).In h → h.Ns mainGlobals mg → mg d.name = some (.ref fa) → (∃ loose mean mb, PyProof.Rows.Top q loose mean mg mb h) →
      ∃ (fd : FuncData) (cs : List (Str × Addr × Addr)), (∀ p ∈ cs, PySem.W.CodeHd h p.2.1 p.2.2 ∧ h.get? p.2.2 = some { cls := .none, data := .fields #[] } ∧ (K w.params).lookup p.2.2 = none) ∧ (∀ (s : Shared) (u : Value), BindsTo s fd ⟨[u], []⟩ [(x, u)]) ∧
        ∀ base : Heap, (K w.params).In base → base.Ns mainGlobals mg → (∀ p ∈ cs, LamX.TabB base mg p.2.1 p.2.2) → FnOk l.prog w (K w.params) mg base (CX w) k fa fd [x] (spLawT (K w.params) cs))
    (hle : n ≤ 63) (hCX : ∀ (w : World) (H : Hp) (s : Shared) (e : Value) (s' : Shared), CX w [] H s (fun _ _ _ => False) e s' → False) :
    PySem.W.WalkO q loose XP YP l.row.toRowW d [] (fun f vs => PySem.call f vs) := by
  refine Att.attach_callB hn hdf fun w s₀ s₁ mg mb fa o pm cd doc a vs ns G Y ho hd hcd hmg hobj hints hlen hbits hg => ?_
  have KX := hY w _ Y
  obtain ⟨fd, cs, hT, hb, hF⟩ := F w mg fa _ KX G.T.g hmg ⟨_, _, _, G.T⟩
  have mm : ∀ {p : Addr × Addr}, p ∈ cs.map (·.2) → ∃ r ∈ cs, r.2 = p := fun h => let ⟨r, h1, h2⟩ := List.mem_map.mp h; ⟨r, h1, h2⟩
  refine LamX.law_callTs (cs := cs.map (·.2)) (sp := spLawT (K w.params) cs) KX G.T.g G.T.b G.T.builtins G.T.nolimit hg (fun p hp => ?_) (fun p hp => ?_) (fun p hp => ?_) G.T.bmain hobj hints (Nat.le_trans hlen hn2) hr (fun base h1 h2 h3 => hF base h1 h2 fun p hp => h3 _ (List.mem_map.mpr ⟨p, hp, rfl⟩)) hb (fun H hH hS => ⟨a, ns, rfl, hS, Nat.le_trans hlen hle, fun p hp => hH _ (List.mem_map.mpr ⟨p, hp, rfl⟩), fun _ => rfl⟩) fun H e s' => hCX w H s₁ e s'
  · obtain ⟨r, hr, rfl⟩ := mm hp; exact (hT r hr).2.1
  · obtain ⟨r, hr, rfl⟩ := mm hp; exact (hT r hr).2.2
  · obtain ⟨r, hr, rfl⟩ := mm hp; exact (hT r hr).1
end PL
namespace PL
open PySem PySem.Spec L2
variable {wW : World}
theorem own_lawT {P : Program} {w : World} {K : PySem.W.Frag} {mg : Str → Option Value} {k : Nat} {fa : Addr} {x y : Str} {st : Stmt} {m : List D → M D} (cs : List (Str × Addr × Addr)) (nd : (cs.map (·.2.2)).Nodup) (hfa : mg x = some (.ref fa)) (hm : ∀ ns : List Int, ns.length ≤ 63 → ∃ st, m [.frz (ns.map D.int)] (tabS cs) = .ok (.bl true) st) (F : Fn0 K mg x st [y])
    (O : ∀ base : Heap, (∀ p ∈ cs, LamX.TabB base mg p.2.1 p.2.2) → Own P w K mg base k x [y] m) : ∃ fd, (∀ (s : Shared) (u : Value), BindsTo s fd ⟨[u], []⟩ [(y, u)]) ∧ ∀ base : Heap, K.In base → base.Ns mainGlobals mg → (∀ p ∈ cs, LamX.TabB base mg p.2.1 p.2.2) → FnOk P w K mg base (L2.CX P w) k fa fd [y] (spLawT K cs) := by
  obtain ⟨fa1, fd, F, e, b⟩ := F.ex
  rw [hfa] at e; cases e
  refine ⟨fd, fun s u => .of_eq (b [u] rfl), fun base _ _ tb => ?_⟩
  obtain ⟨fa2, fd', F2, e, _, b2, oc, od, sl, l⟩ := (O base tb).ex
  rw [hfa] at e; cases e
  obtain ⟨oc1, od1, sl1, l1⟩ := Fun.lk F
  rw [l] at l1
  have e2 : fd' = fd := by injection l1 with h; injection h with _ _ h; injection h
  subst e2
  exact law_endT cs nd F2 hm
end PL

set_option linter.all false
set_option maxRecDepth 100000
set_option maxHeartbeats 6000000
/-! PL24: enumerate of lists and of tuples. -/
namespace PL
section
open PySem PySem.Spec PyProof.Rows L2
variable {wW : World}
open AutoSeq1 (wpAny_loadPart')
theorem enum_newT (t : Addr) (xs : Array Value) (m : Nat) (dd : Option Addr) (ss : Array (Option Value)) :
    Meets (Builtin.«enumerate.__new__» ⟨[.type "enumerate", .ref t], []⟩) (fun _ R s => s.heap.get? t = some ⟨.type "tuple", dd, .seq xs m, ss⟩ ∧
      R (.ok (.ret (.ref (s.heap.push ⟨.type "tuple_iterator", none, .fields #[.ref t, .int 0 0], #[]⟩).objs.size)))
        { s with heap := (s.heap.push ⟨.type "tuple_iterator", none, .fields #[.ref t, .int 0 0], #[]⟩).push ⟨.type "enumerate", none, .fields #[.none, .bool false, .ref s.heap.objs.size, rawInt 0, .none, .none], #[]⟩ }) :=
  .of_wp fun P w A R s hh => by
    obtain ⟨hp, gg, di, tk, os⟩ := s
    obtain ⟨ht, hh⟩ := hh
    have hsb := sub_enumerate
    have hT : Heap.IsTuple (Shared.heap ⟨hp, gg, di, tk, os⟩) t xs := ⟨_, ht, rfl, m, rfl⟩
    wp_walk using wpAny_loadPart' ht
    refine wpAny_stack_any fun sk => ?_
    refine wpAny_pure ?_
    split
    · rename_i c _ _ _ _ _
      cases (c == Value.type "enumerate")
      · wp_walk using wpAny_loadPart' ht, wpAny_pyIter_tuple hT
        exact ⟨_, rfl, hh⟩
      · wp_walk using wpAny_loadPart' ht, wpAny_pyIter_tuple hT
        exact ⟨_, rfl, hh⟩
    · wp_walk using wpAny_loadPart' ht, wpAny_pyIter_tuple hT
      exact ⟨_, rfl, hh⟩
section
variable {P : Program} {w : World} {A : Around} {E : Value → Shared → Prop} {s : Shared}
theorem enum_call_tuple {t : Addr} {xs : Array Value} {Q : Value → Shared → Prop} (ht : s.heap.IsTuple t xs)
    (k : ∀ h', IsEnum h' (s.heap.objs.size + 1) s.heap.objs.size 0 .none → h'.IsTupleIter s.heap.objs.size t 0 →
      (∀ b o, s.heap.get? b = some o → h'.get? b = some o) → Q (.ref (s.heap.objs.size + 1)) { s with heap := h' }) :
    wpAny (model P w) A (call (.type "enumerate") [.ref t]) Q E s := by
  obtain ⟨⟨c, dd, dt, ss⟩, hl, hc, m, hd⟩ := ht
  have hc' : c = .type "tuple" := hc
  have hd' : dt = .seq xs m := hd
  subst hc' hd'
  refine callType_new F.called_enumerate (by decide) (F.typeCall_enumerate_1 _) (F.newCall_enumerate_1 _) (fun ob => F.args_object_init_2 ob _) F.entry_enumerate_new (enum_newT t xs m dd ss) ⟨hl, ?_⟩
  have sz : (s.heap.push ⟨.type "tuple_iterator", none, .fields #[.ref t, .int 0 0], #[]⟩).objs.size = s.heap.objs.size + 1 := Heap.size_push ..
  show _ ∧ _
  rw [sz]
  have hE : IsEnum ((s.heap.push ⟨.type "tuple_iterator", none, .fields #[.ref t, .int 0 0], #[]⟩).push
      ⟨.type "enumerate", none, .fields #[.none, .bool false, .ref s.heap.objs.size, rawInt 0, .none, .none], #[]⟩) (s.heap.objs.size + 1) s.heap.objs.size 0 .none := by
    have z := Heap.get?_push_size (s.heap.push ⟨.type "tuple_iterator", none, .fields #[.ref t, .int 0 0], #[]⟩)
      (o := ⟨.type "enumerate", none, .fields #[.none, .bool false, .ref s.heap.objs.size, rawInt 0, .none, .none], #[]⟩) rfl
    rw [sz] at z
    exact z
  exact ⟨⟨_, hE, rfl⟩, k _ hE ⟨_, Heap.get?_push_of_some _ (Heap.get?_push_size _ rfl), rfl, rfl⟩ fun b ob z => Heap.get?_push_of_some _ (Heap.get?_push_of_some _ z)⟩
theorem enum_end_tuple {e it t : Addr} {j : Nat} {i : Int} {xs : Array Value} {old : Value} {Q : Option Value → Shared → Prop} (hd : A.handled = none) (he : IsEnum s.heap e it i old) (hi : s.heap.IsTupleIter it t j) (ht : s.heap.IsTuple t xs) (hx : xs[j]? = none)
    (k : ∀ h', Heap.ExtBut it s.heap h' → Q none { s with heap := h' }) : wpAny (model P w) A (pyNext (.ref e)) Q E s := by
  have ty : s.TypeIs (.ref e) "enumerate" := ⟨_, he, rfl⟩
  unfold pyNext
  refine wpAny_bind (wpAny_attempt (wpAny_callSpecial?_slot (name := Str.ofString "__next__") ty F.slot_enumerate_next (wpAny_call_entry F.slot_enumerate_next ty F.entry_enumerate_next ?_ (F.args_enumerate_next_1 _))))
  show wpAny _ _ (field (.ref e) 2 >>= _) _ _ _
  refine wpAny_bind (wpAny_field he rfl (x := .ref it) rfl ?_)
  refine wpAny_bind (wpAny_nextOf_tuple_end (A := A.in1) hd hi ht hx fun h' x eb hx' => ?_)
  obtain ⟨ob, ho, hc⟩ := hx'
  refine wpAny_bind (wpAny_isInstance (T := "StopIteration") (b := true) ⟨ob, ho, hc⟩ isSubtype_stop ?_)
  exact wpAny_pure (k _ eb)
end
/-- the tuple at a, each item in a new pair -/
def IteT (K : PySem.W.Frag) (a : Addr) : It :=
  ⟨fun i H => ∃ (xs : List V) (x : V), SqT K H a xs ∧ xs[i]? = some x, fun i H v H' => ∃ T x, v = .ref T ∧ H T = none ∧ H' = upd H T (.tup [.int (i : Nat), x]) ∧ ∀ xs, SqT K H a xs → xs[i]? = some x, fun i H => ∃ xs : List V, SqT K H a xs ∧ xs.length ≤ i⟩
theorem turn_enumT {P : Program} {w : World} {K : PySem.W.Frag} {elts : List Expr} {kk : Nat} {tpos : Pos} (a e it : Addr) :
    Turn P w K (.Tuple elts kk tpos) (IteT K a) [e, it] e (fun i h => (∃ old, IsEnum h e it ((i : Nat) : Int) old) ∧ h.IsTupleIter it a i ∧ e ≠ it) where
  mem := by simp
  obj := fun i h st b hb => by
    obtain ⟨⟨old, he⟩, ⟨ob, ho, hc, hd⟩, _⟩ := st
    have z : b = e ∨ b = it := by simpa using hb
    rcases z with q | q
    · rw [q]; exact ⟨_, he, fun v z => nomatch z⟩
    · rw [q]; exact ⟨ob, ho, fun v z => by rw [hd] at z; cases z⟩
  keep := fun i h h' st k => let ⟨⟨old, he⟩, hi, hne⟩ := st; ⟨⟨old, k e (by simp) _ he⟩, hi.at fun ob q => k it (by simp) ob q, hne⟩
  item := by
    intro X hP hw hK hc i pins s σ H E I hf st hg
    subst hP hw hK
    obtain ⟨⟨old, he⟩, hit, hne⟩ := st
    obtain ⟨xs, x, hq, hx⟩ := hg
    obtain ⟨us, rv, p, hz⟩ := I.tuple hq
    obtain ⟨u, hu, ru⟩ := rv.get hx
    have p' : s.heap.IsTuple a us.toArray := p
    have lte : e < s.heap.objs.size := Heap.lt_size he
    have lti : it < s.heap.objs.size := by obtain ⟨_, q, _⟩ := hit; exact Heap.lt_size q
    have nea : e ≠ a := fun q => by
      subst q
      obtain ⟨ob, ho, hc', _⟩ := p'
      rw [he] at ho
      cases ho
      exact absurd (show Value.type "enumerate" = Value.type "tuple" from hc') (by decide)
    have nia : a ≠ it := fun q => by
      subst q
      obtain ⟨ob, ho, hc', _⟩ := p'
      obtain ⟨ob2, ho2, hc2, _⟩ := hit
      rw [ho] at ho2
      cases ho2
      exact absurd (hc'.symm.trans hc2) (by decide)
    have hu' : us.toArray[i]? = some u := by simpa using hu
    have li : i < us.toArray.size := (Array.getElem?_eq_some_iff.mp hu').1
    refine wpAny_pyNext_enum_itemD (Draws.tuple (A := X.A.in1) (show X.A.in1.handled = none from I.ok.hd hc) it a nia us.toArray) he ⟨hit, p'⟩ li hne (by simp [hne, nea]) fun y h' tk hy ho st' hT hsz hk => ?_
    obtain rfl : y = u := Option.some.inj (hy.symm.trans hu')
    refine ⟨_, rfl, wpAny_letOwnedTupleGo_enum (s := { s with heap := h', toks := tk + 1 }) ho fun h2 he2 sb => ?_⟩
    have hT2 : h2.get? s.heap.objs.size = some ⟨.type "tuple", none, .seq #[.int i tk, y] 0, #[]⟩ := (sb.2 _ (Nat.ne_of_gt lte)).trans hT
    have new : ObjOk X.prog X.w (upd H s.heap.objs.size (.tup [.int (i : Nat), x])) h2 s.heap.objs.size (.tup [.int (i : Nat), x]) :=
      ⟨(by show 2 ≤ sizeLine; decide), [.int i tk, y], .cons ⟨_, rfl⟩ (.cons ru .nil), ⟨_, hT2, rfl, _, rfl⟩⟩
    have I1 : Inv X pins σ (upd H s.heap.objs.size (.tup [.int (i : Nat), x])) { s with heap := h2, toks := tk + 1 } :=
      I.turnedNew (ch := [e, it]) (fun b ob hb q => (sb.2 b fun z => hb (by simp [z])).trans (hk b ob (fun z => hb (by simp [z])) (fun z => hb (by simp [z])) q)) hf (Nat.le_refl _) new
    refine ⟨.ref s.heap.objs.size, _, I1, rfl, ⟨_, x, rfl, I.hok.fresh (Nat.le_refl _), rfl, fun zs hz => by rw [I.tuple_inj hz hq]; exact hx⟩, ⟨⟨y, ?_⟩, st'.1.at fun ob q => (sb.2 it (Ne.symm hne)).trans q, hne⟩, fun b hb => ?_⟩
    · have e1 : ((i + 1 : Nat) : Int) = (i : Int) + 1 := Int.natCast_add i 1
      rw [e1]
      exact he2
    · have lb : b < s.heap.objs.size := by
        have z : b = e ∨ b = it := by simpa using hb
        rcases z with q | q <;> rw [q] <;> assumption
      rw [upd_ne (Nat.ne_of_lt lb)]
      exact (hf b hb).1
  done := by
    intro X hP hw hK hc i pins s σ H E I hf st hg
    subst hP hw hK
    obtain ⟨⟨old, he⟩, hit, hne⟩ := st
    obtain ⟨xs, hq, hx⟩ := hg
    obtain ⟨us, rv, p, hz⟩ := I.tuple hq
    obtain ⟨g0, g1, g2, g3, g4, g5⟩ := hf it (by simp)
    have ll := rv.length
    exact enum_end_tuple (I.ok.hd hc) he hit (show s.heap.IsTuple a us.toArray from p) (by simp; omega) fun h' eb => ⟨rfl, I.turned (t' := s.toks) (fun b ob hb q => eb b ob hb q) g0 g1 g3 g4 g5⟩
  self := fun A i s Q E st k => let ⟨⟨_, he⟩, _⟩ := st; wpAny_pyIter_enum he k
def iEnS (K : PySem.W.Frag) (ta : TA) : TI := fun σ H R => ta σ H fun vs H1 => ∃ a, vs = [.ref a] ∧ ((∃ xs, SqL K H1 a xs ∧ R (Ite K a) H1) ∨ ∃ xs, SqT K H1 a xs ∧ R (IteT K a) H1)
theorem pi_enumS {X : Cx} {e : Expr} {ta : TA} {p pos tpos : Pos} {elts : List Expr} {kk : Nat} (hg : Gl X "enumerate") (hm : X.mg "enumerate" = none) (ha : PA X [e] ta) (hs : starEach [e] X.env = [(false, eval e X.env)] := by rfl) :
    PI X (.Tuple elts kk tpos) (.Call (.Name "enumerate" p) [e] [] pos) (iEnS X.K ta) := by
  refine ⟨fun pins s σ H R I hh => ?_⟩
  refine Call_ (ld_blt I hg hm boot_enumerate (PyProof.Rows.callWith_type1 (thn (ha.run pos pins s σ H _ I hh) fun us s1 ⟨vs, H1, I1, r1, q1⟩ => ?_) hs rfl))
  obtain ⟨a, ex, q⟩ := q1
  subst ex
  cases r1 with
  | cons r rr =>
    cases rr
    cases r
    have fp : ∀ {h' : Heap} (b : Addr), b ∈ [s1.heap.objs.size + 1, s1.heap.objs.size] → s1.heap.objs.size ≤ b := fun b hb => by
      have z : b = s1.heap.objs.size + 1 ∨ b = s1.heap.objs.size := by simpa using hb
      rcases z with q | q <;> rw [q]
      · exact Nat.le_succ _
      · exact Nat.le_refl _
    rcases q with ⟨xs, hq, q⟩ | ⟨xs, hq, q⟩
    · obtain ⟨us, rv, p', hz⟩ := I1.list hq
      refine call_enumerate_list p'.isList fun h' he hit hsz hk => wpAny_pyIter_enum he ?_
      exact ⟨s1.heap.objs.size + 1, [s1.heap.objs.size + 1, s1.heap.objs.size], _, _, H1, rfl, I1.kept (t' := s1.toks) hk, turn_enum a (s1.heap.objs.size + 1) s1.heap.objs.size, ⟨⟨.none, he⟩, hit, Nat.succ_ne_self _⟩, fun b hb => I1.fpOk (fp (h' := h') b hb) (I1.hok.fresh (fp (h' := h') b hb)), q⟩
    · obtain ⟨us, rv, p', hz⟩ := I1.tuple hq
      refine enum_call_tuple (show s1.heap.IsTuple a us.toArray from p') fun h' he hit hk => wpAny_pyIter_enum he ?_
      exact ⟨s1.heap.objs.size + 1, [s1.heap.objs.size + 1, s1.heap.objs.size], _, _, H1, rfl, I1.kept (t' := s1.toks) hk, turn_enumT a (s1.heap.objs.size + 1) s1.heap.objs.size, ⟨⟨.none, he⟩, hit, Nat.succ_ne_self _⟩, fun b hb => I1.fpOk (fp (h' := h') b hb) (I1.hok.fresh (fp (h' := h') b hb)), q⟩
end
section
open PySem PySem.Spec L2
variable {wW : World}
variable {X : Cx} {E : XK} {H0 : Hp} {ga : En → M (List D)} {a : Expr} {p pos : Pos}
def iEnumS (g : En → M (List D)) : En → M (List D) := fun ρ => (g ρ).bind fun ds => match ds with
  | [.lst xs] => (line xs.length).bind fun _ => M.pure (numb 0 xs)
  | [.tup xs] => (line xs.length).bind fun _ => M.pure (numb 0 xs)
  | _ => M.bad
theorem iteT_ok {K : PySem.W.Frag} {G : Hp} {μ : Mu} {a : Addr} {vs : List V} {ds : List D} (hl : SqT K G a vs) (r : RepL K G μ vs ds) (hz : ds.length ≤ sizeLine) : ItR wW K G μ (IteT K a) (numb 0 ds) := by
  refine ⟨by rw [numb_len]; exact hz, fun H1 G1 μ1 st1 w sg sm => ⟨fun i hi => ?_, fun i hi => ?_⟩⟩
  · rw [numb_len] at hi
    have h1 : SqT K H1 a vs := (sg.trans w.imm).sqT hl
    obtain ⟨v, hv, rv⟩ := r.get (List.getElem?_eq_getElem hi)
    refine ⟨⟨vs, v, h1, hv⟩, fun x H2 ⟨T, y, ex, hT, eH, hy⟩ => ?_⟩
    subst ex eH
    have ey : y = v := Option.some.inj ((hy vs h1).symm.trans hv)
    subst ey
    obtain ⟨w2, s2⟩ := w.new (o := .tup [.int (i : Nat), y]) hT
    refine ⟨_, w2, s2, _, by rw [numb_get, List.getElem?_eq_getElem hi]; rfl, ?_⟩
    rw [Nat.zero_add]
    exact .tup (.inl (.inl upd_same)) (.cons (.int _) (.cons ((rv.mono sg sm).mono s2.g s2.m) .nil))
  · rw [numb_len] at hi
    exact ⟨vs, (sg.trans w.imm).sqT hl, by rw [RepL.length r]; exact hi⟩
theorem ji_enumS {elts : List Expr} {kk : Nat} {tpos : Pos} (hg : Gl X "enumerate") (hm : X.mg "enumerate" = none) (ha : JA X E H0 ga [a]) (hs : starEach [a] X.env = [(false, eval a X.env)] := by rfl) :
    JI X E H0 (.Tuple elts kk tpos) (iEnumS ga) (.Call (.Name "enumerate" p) [a] [] pos) := by
  refine PI.imp (pi_enumS hg hm ha hs) fun σ H R ⟨G, μ, st, ρ, w, er, q⟩ => ?_
  refine ⟨G, μ, st, ρ, w, er, Post.raw q fun ds st1 vs H1 G1 μ1 w1 s1 r1 q1 => ?_⟩
  cases r1 with
  | nil => exact q1.elim
  | cons h t =>
    cases t with
    | cons _ _ => cases h <;> exact q1.elim
    | nil =>
      cases h with
      | lst h1 rr =>
        obtain ⟨c, q1⟩ := Post.line (X := X) q1
        exact ⟨_, rfl, .inl ⟨_, w1.imm.sqL (.inl (.inl h1)), q1 _ _ _ _ w1 s1 (ite_ok (.inl (.inl h1)) rr c)⟩⟩
      | tup h1 rr =>
        obtain ⟨c, q1⟩ := Post.line (X := X) q1
        exact ⟨_, rfl, .inr ⟨_, w1.imm.sqT h1, q1 _ _ _ _ w1 s1 (iteT_ok h1 rr c)⟩⟩
      | _ => exact q1.elim
end
end PL

set_option linter.all false
set_option maxRecDepth 100000
set_option maxHeartbeats 4000000
/-! PL25: lists from split that stay in their maker's hands; pairs whose first name holds an own list; x[i] = v of own lists; calls with keywords. -/
namespace PL
open PySem PySem.Spec L2
variable {wW : World}
section
variable {X : Cx} {E : XK} {H0 : Hp} {e a b c o ix : Expr} {f g h : En → M D} {fl gl : En → M (List D)} {pos p p0 apos : Pos} {Φ : Ent} {x y : Str} {ga : En → M (List D)} {i j : Nat}
/-- the pieces of a text, as a new list -/
def fSplit (f g : En → M D) : En → M (List D) := fun ρ => (f ρ).bind fun d => match d with
  | .str a => (g ρ).bind fun y => (match y with
    | .str b => guardM (!(b.length == 0) && decide (a.length + 2 ≤ sizeLine)) (M.pure ((Txt.split a b).map D.str))
    | _ => M.bad)
  | _ => M.bad
theorem jf_split (hf : JB X E H0 f a) (hg : JB X E H0 g b) (hs : starEach [b] X.env = [(false, eval b X.env)] := by rfl) (hbase : attributeBase a "split" X.env (eval a X.env) = eval a X.env := by rfl) (hline : (apos.endLine == pos.line) = true := by rfl) :
    JF X E H0 (fSplit f g) (.Call (.Attribute a "split" apos) [b] [] pos) := PE.imp (pe_split hf hg hs hbase hline) fun σ H Q ⟨G, μ, st, ρ, w, er, k⟩ => by
  refine ⟨G, μ, st, ρ, w, er, Post.bind k fun dx st1 x H1 G1 μ1 w1 s1 r1 k1 => ?_⟩
  cases dx with
  | str a =>
    have ex := r1.weak.str
    subst ex
    refine ⟨⟨a, rfl⟩, G1, μ1, st1, ρ, w1, er.step s1, Post.bind k1 fun dy st2 y H2 G2 μ2 w2 s2 r2 k2 => ?_⟩
    cases dy with
    | str z =>
      cases r2.weak.str
      obtain ⟨cc, k3⟩ := Post.guard k2
      rw [Bool.and_eq_true] at cc
      refine ⟨a, z, rfl, rfl, by simpa using cc.1, of_decide_eq_true cc.2, fun l hl => ?_⟩
      obtain ⟨w3, s3⟩ := w2.lay (o := .lst ((Txt.split a z).map V.str)) hl
      refine k3 _ _ _ _ w3 s3 ⟨l, _, rfl, upd_same, rep_strs _, none_before w2.imm.th hl, fun k e => ?_, hl⟩
      obtain ⟨b, h1, _, h3⟩ := w2.obj k _ (List.getElem?_eq_getElem (w2.dom k l e))
      rw [e] at h1; cases h1
      obtain ⟨u, hu⟩ := h3.there
      rw [hl] at hu; cases hu
    | _ => exact k2.elim
  | _ => exact k1.elim
/-! ### pairs -/
def put1 (i : Nat) (x : Slot) (ρ : En) : M En := opt (if i < ρ.length then some (ρ.set i x) else none)
def sParF (i j : Nat) (f : En → M (List D)) (g : En → M D) : En → M (Fl × En) := fun ρ => (f ρ).bind fun ds => (g ρ).bind fun e => (put1 i (.own ds) ρ).bind fun r => put j (.val e) r
def sParB (i j : Nat) (f g : En → M (List D)) : En → M (Fl × En) := fun ρ => (f ρ).bind fun ds => (g ρ).bind fun e => (put1 i (.own ds) ρ).bind fun r => put j (.own e) r
theorem own_in {ρ : En} {σ : L2.St} {G0 H G : Hp} {μ0 μ : Mu} {H1 : Hp} {v : V} {ds : List D} (er : ER X.K H1 G0 μ0 Φ.H ρ σ) (s : Stp H1 G0 μ0 H G μ) (s0 : Stp Φ.H Φ.G Φ.μ H1 G0 μ0) (r : Fresh X.K H1 H G μ v ds) (hi : i < ρ.length) : ER X.K H G μ Φ.H (ρ.set i (.own ds)) (σ.set i (some v)) := by
  obtain ⟨a, vs, rfl, h1, h2, h3, h4, h5⟩ := r
  refine (er.step s).setOwn hi h1 h2 h3 h4 (none_before s0.th h5) fun j es q z => ?_
  obtain ⟨b, ws, z1, z2, _⟩ := er.own j es q
  rw [z] at z1; cases z1
  rw [h5] at z2; cases z2
theorem PostS.put1 {i : Nat} {x : Slot} {ρ : En} {k : En → M (Fl × En)} {st : Sto} {Dn : Ends} (q : PostS X E Φ Dn (((PL.put1 i x ρ).bind k) st)) : i < ρ.length ∧ PostS X E Φ Dn (k (ρ.set i x) st) := by
  obtain ⟨r, e, q⟩ := PostS.opt q
  by_cases h : i < ρ.length
  · rw [if_pos h] at e; cases e; exact ⟨h, q⟩
  · rw [if_neg h] at e; cases e
section
variable {px py pt' : Pos} {kt k2 : Nat} {pt2 : Pos}
theorem js_parF (hc : X.calm = true) (hN : X.N.Nodup) (hi : X.N[i]? = some x) (hj : X.N[j]? = some y) (ha : JF X E Φ.H fl a) (hb : JE X E Φ.H g b) (hij : i ≠ j := by decide)
    (hx : X.env.scope.names.lookup x = some .local := by rfl) (hy : X.env.scope.names.lookup y = some .local := by rfl)
    (hw : swappedStores [.Tuple [.Name x px, .Name y py] kt pt'] (.Tuple [a, b] k2 pt2) X.env = pure (some [x, y]) := by rfl)
    (hs : swapsWithSole [.Tuple [.Name x px, .Name y py] kt pt'] (.Tuple [a, b] k2 pt2) pos.line X.env = pure false := by rfl)
    (h1 : starEach [a, b] X.env = (false, eval a X.env) :: starEach [b] X.env := by rfl) (h2 : starEach [b] X.env = (false, eval b X.env) :: starEach [] X.env := by rfl) :
    JS X E Φ (sParF i j fl g) (.Assign [.Tuple [.Name x px, .Name y py] kt pt'] (.Tuple [a, b] k2 pt2) pos) := by
  refine PS.imp (ps_par hc hN hi hj hij hx hy (pa_cons ha (pa_cons hb pa_nil h2) h1) hw hs) fun Dn σ H ⟨G, μ, st, ρ, w, er, s, q⟩ => ?_
  refine ⟨G, μ, st, ρ, w, er, q.bind s fun d st1 v H1 G1 μ1 w1 s1 t1 r1 q1 => ⟨G1, μ1, st1, ρ, w1, er.step s1, q1.bind t1 fun e st2 u H2 G2 μ2 w2 s2 t2 r2 q2 => ?_⟩⟩
  obtain ⟨l1, q3⟩ := q2.put1
  exact ⟨v, u, rfl, put_val q3 w2 ((own_in er s1 s r1 l1).step s2) t2 r2⟩
theorem js_parB (hc : X.calm = true) (hN : X.N.Nodup) (hi : X.N[i]? = some x) (hj : X.N[j]? = some y) (ha : JF X E Φ.H fl a) (hb : JF X E Φ.H gl b) (hij : i ≠ j := by decide)
    (hx : X.env.scope.names.lookup x = some .local := by rfl) (hy : X.env.scope.names.lookup y = some .local := by rfl)
    (hw : swappedStores [.Tuple [.Name x px, .Name y py] kt pt'] (.Tuple [a, b] k2 pt2) X.env = pure (some [x, y]) := by rfl)
    (hs : swapsWithSole [.Tuple [.Name x px, .Name y py] kt pt'] (.Tuple [a, b] k2 pt2) pos.line X.env = pure false := by rfl)
    (h1 : starEach [a, b] X.env = (false, eval a X.env) :: starEach [b] X.env := by rfl) (h2 : starEach [b] X.env = (false, eval b X.env) :: starEach [] X.env := by rfl) :
    JS X E Φ (sParB i j fl gl) (.Assign [.Tuple [.Name x px, .Name y py] kt pt'] (.Tuple [a, b] k2 pt2) pos) := by
  refine PS.imp (ps_par hc hN hi hj hij hx hy (pa_cons ha (pa_cons hb pa_nil h2) h1) hw hs) fun Dn σ H ⟨G, μ, st, ρ, w, er, s, q⟩ => ?_
  refine ⟨G, μ, st, ρ, w, er, q.bind s fun d st1 v H1 G1 μ1 w1 s1 t1 r1 q1 => ⟨G1, μ1, st1, ρ, w1, er.step s1, q1.bind t1 fun e st2 u H2 G2 μ2 w2 s2 t2 r2 q2 => ?_⟩⟩
  obtain ⟨l1, q3⟩ := q2.put1
  exact ⟨v, u, rfl, put_own q3 w2 (own_in er s1 s r1 l1) s2 t1 r2⟩
end
/-! ### x[i] = v -/
theorem js_oset {x : Str} {p1 ps po : Pos} (hN : X.N[j]? = some x) (hv : Vis X.env.scope x) (hi : JE X E Φ.H g ix) (he : JE X E Φ.H f e) (hd : (x == ("__debug__" : Str)) = false := by decide) (hcd : (x == ("__classdict__" : Str)) = false := by decide)
    (ha : ∀ v, assign (.Subscript (.Name x p1) ix po) X.env v = (do
      let ov ← holding [v] (eval (.Name x p1) X.env)
      let iv ← holding [v, ov] (eval ix X.env)
      standAt po
      holding [v, ov, iv] (setItem ov iv v)
      release [v, ov, iv] []) := by intro _; rfl)
    (hs : swapsWithSole [.Subscript (.Name x p1) ix po] e ps.line X.env = pure false := by rfl) (hw : swappedStores [.Subscript (.Name x p1) ix po] e X.env = pure none := by rfl)
    (h1 : (assignEach [.Subscript (.Name x p1) ix po] X.env).map (·.2) = [assign (.Subscript (.Name x p1) ix po) X.env] := by rfl) :
    JS X E Φ (sOset j g f) (.Assign [.Subscript (.Name x p1) ix po] e ps) := by
  refine PS.imp (ps_asg he (pg_sub (pe_var hN hv hd hcd) hi set_list ha) hs hw h1) fun Dn σ H ⟨G, μ, st, ρ, w, er, s, q⟩ => ?_
  refine ⟨G, μ, st, ρ, w, er, q.bind s fun d st1 v H1 G1 μ1 w1 s1 t1 r1 q1 => ?_⟩
  obtain ⟨ds, hj, q1⟩ := PostS.opt q1
  have hj' : ρ[j]? = some (.own ds) := by
    cases e0 : ρ[j]? with
    | none => rw [e0] at hj; cases hj
    | some s0 =>
      rw [e0] at hj
      cases s0 with
      | own es => cases hj; rfl
      | _ => cases hj
  obtain ⟨a0, vs0, k1, _, _, _, _, _⟩ := (er.step s1).own j ds hj'
  refine ⟨_, k1, G1, μ1, st1, ρ, w1, er.step s1, q1.bind t1 fun dz st2 z H2 G2 μ2 w2 s2 t2 r2 q2 => ?_⟩
  obtain ⟨k, hk, q2⟩ := PostS.opt q2
  cases r2 with
  | int z =>
    have q3 : PostS X E Φ Dn (((opt (ixN ds.length z)).bind fun m => M.pure (ds.set m d)).bind (fun es => put j (Slot.own es) ρ) st2) := by
      cases hk; exact q2
    rw [M.bind_assoc] at q3
    obtain ⟨m, hm, q2⟩ := PostS.opt q3
    obtain ⟨l, vs, g1, g2, g3, fin⟩ := upd_end w2 ((er.step s1).step s2) t2 hj' q2
    rw [k1] at g1; cases g1
    exact ⟨_, vs, _, m, rfl, rfl, g2, by rw [RepL.length g3]; exact hm, fin _ (RepL.set (r1.mono s2.g s2.m) m g3)⟩
  | _ => cases hk
end
/-! ### keywords -/
/-- positions and keywords, as many as there are -/
def kwG {α : Type} (n m : Nat) (us ws : List α) : List α := if us.length = n ∧ ws.length = m then us ++ ws else []
structure OwnK (P : Program) (w : World) (K : PySem.W.Frag) (mg : Str → Option Value) (base : Heap) (k : Nat) (x : Str) (ps ks : List Str) (n : Nat) (sem : List D → M D) : Prop where
  ex : ∃ fa fd, FnOk P w K mg base (L2.CX P w) k fa fd ps (SpOf w K mg ps.length sem) ∧ mg x = some (.ref fa) ∧ PySem.W.keepIn K (.ref fa) = true ∧ KBinds K fd ps ks (kwG n ks.length) (kwG n ks.length)
structure FnK (K : PySem.W.Frag) (mg : Str → Option Value) (x : Str) (st : Stmt) (ps ks : List Str) (n : Nat) : Prop where
  ex : ∃ fa fd, Fun K x x st fa fd ∧ mg x = some (.ref fa) ∧ KBinds K fd ps ks (kwG n ks.length) (kwG n ks.length)
theorem own_defK {P : Program} {w : World} {K : PySem.W.Frag} {mg : Str → Option Value} {base : Heap} {k n : Nat} {x : Str} {st : Stmt} {N ps ks : List Str} {f : En → M (Fl × En)} (F : FnK K mg x st ps ks n) (S : FnScope N ps (defScope st))
    (body : ∀ (fa : Addr) (cdv : Value) (A : Around) (outer : List Env) (s : Shared) (H G : Hp) (μ : Mu) (E : XK), Room k (A.deeper (PyProof.Rows.envOfC x (defScope st) s.heap.objs.size fa cdv)) →
      JSs (cxOf (L2.CX P w) P w K mg base N x (defScope st) fa cdv A outer s H E) E ⟨H, G, μ⟩ f (defBody st)) :
    OwnK P w K mg base (k + 1) x ps ks n (runB N.length f) := by
  obtain ⟨fa, fd, F, m, b⟩ := F.ex
  exact ⟨fa, fd, def_ok F S (body fa), m, F.kp, b⟩
theorem vals_len {vs : List V} {us : List Value} (r : Vals vs us) : us.length = vs.length := by
  induction r with
  | nil => rfl
  | cons _ _ ih => rw [List.length_cons, List.length_cons, ih]
theorem vals_app {vs zs : List V} {us ws : List Value} (r : Vals vs us) (q : Vals zs ws) : Vals (vs ++ zs) (us ++ ws) := by
  induction r with
  | nil => exact q
  | cons h _ ih => exact .cons h ih
theorem kbinds_of {K : PySem.W.Frag} {fd : FuncData} {ps ks : List Str} {n : Nat} (hp : ps ≠ []) (h : ∀ us ws : List Value, us.length = n → ws.length = ks.length → bindArgs fd ⟨us, ks.zip ws⟩ = pure (ps.zip (us ++ ws))) : KBinds K fd ps ks (kwG n ks.length) (kwG n ks.length) where
  to := fun s us ws _ hl => by
    unfold kwG at hl ⊢
    by_cases c : us.length = n ∧ ws.length = ks.length
    · rw [if_pos c]
      exact .of_eq (h us ws c.1 c.2)
    · rw [if_neg c] at hl
      exact absurd (List.eq_nil_of_length_eq_zero hl.symm) hp
  rel := fun {vs us zs ws} r q => by
    unfold kwG
    rw [vals_len r, vals_len q]
    split
    · exact vals_app r q
    · exact .nil
/-- the values of keywords, in their order -/
def JK (X : Cx) (E : XK) (H0 : Hp) (f : En → M (List D)) (kws : List Keyword) : Prop := PK X kws (Se X E H0 (rRepL X.K) f)
section
variable {X : Cx} {E : XK} {H0 : Hp} {e : Expr} {es : List Expr} {kws : List Keyword} {f : En → M D} {ga gb : En → M (List D)} {pos p kpos : Pos} {x nm : Str}
theorem PK_imp {t t' : TA} (h : PK X kws t) (q : ∀ σ H Q, t' σ H Q → t σ H Q) : PK X kws t' := ⟨fun pos pins s σ H Q I x => h.run pos pins s σ H Q I (q _ _ _ x)⟩
theorem jk_nil : JK X E H0 aNil [] := PK_imp pk_nil fun σ H Q ⟨G, μ, st, ρ, w, er, p⟩ => p [] H G μ w .refl .nil
theorem jk_cons (ha : JE X E H0 f e) (hr : JK X E H0 gb kws) : JK X E H0 (aCons f gb) (⟨some nm, e, kpos⟩ :: kws) := by
  refine PK_imp (pk_cons ha hr) fun σ H Q ⟨G, μ, st, ρ, w, er, q⟩ => ?_
  refine ⟨G, μ, st, ρ, w, er, Post.bind q fun dx st1 x H1 G1 μ1 w1 s1 r1 q1 => ?_⟩
  refine ⟨G1, μ1, st1, ρ, w1, er.step s1, Post.bind q1 fun dy st2 y H2 G2 μ2 w2 s2 r2 q2 => ?_⟩
  exact q2 _ H2 G2 μ2 w2 .refl (.cons (Rep.mono s2.g s2.m r1) r2)
/-- a call with keywords -/
def eCallK (n m : Nat) (sem : List D → M D) (g h : En → M (List D)) : En → M D := fun ρ => (g ρ).bind fun ds => (h ρ).bind fun es => if ds.length = n ∧ es.length = m then sem (ds ++ es) else M.bad
theorem jcallK {k n : Nat} {ps ks : List Str} {sem : List D → M D} (C : OwnK X.prog X.w X.K X.mg X.base k x ps ks n sem) (hr : Room k X.A) (hx : Passes (L2.CX X.prog X.w) X E) (ha : JA X E H0 ga (e :: es)) (hkw : JK X E H0 gb kws) (hg : Gl X x := by rfl)
    (hall : (backToKw pos (keywordEach kws X.env)).all (·.1.isSome) = true := by rfl) (hks : (backToKw pos (keywordEach kws X.env)).filterMap (·.1) = ks := by rfl) (hdb : (x == ("__debug__" : Str)) = false := by decide)
    (he : starEach (e :: es) X.env = (false, eval e X.env) :: starEach es X.env := by rfl) (hpl : ((backTo pos (starEach (e :: es) X.env)).any (·.1) || (backToKw pos (keywordEach kws X.env)).any (·.1.isNone)) = false := by rfl)
    (hn : n + ks.length = ps.length := by rfl) : JE X E H0 (eCallK n ks.length sem ga gb) (.Call (.Name x p) (e :: es) kws pos) := by
  obtain ⟨fa, fd, F, m, kp, b⟩ := C.ex
  refine PE.imp (pe_callK F hr hg m kp b hx ha hkw hall hks hdb he hpl) fun σ H Q ⟨G, μ, st, ρ, w, er, q⟩ => ?_
  refine ⟨G, μ, st, ρ, w, er, Post.bind q fun ds st1 vs H1 G1 μ1 w1 s1 r1 q1 => ?_⟩
  refine ⟨G1, μ1, st1, ρ, w1, er.step s1, Post.bind q1 fun es st2 zs H2 G2 μ2 w2 s2 r2 q2 => ?_⟩
  by_cases c : ds.length = n ∧ es.length = ks.length
  · rw [if_pos c] at q2
    have l1 := RepL.length r1
    have l2 := RepL.length r2
    unfold kwG
    rw [if_pos ⟨by rw [l1]; exact c.1, by rw [l2]; exact c.2⟩]
    exact ⟨G2, μ2, st2, ds ++ es, w2, (r1.mono s2.g s2.m).append r2, by rw [List.length_append, c.1, c.2]; exact hn, q2⟩
  · rw [if_neg c] at q2
    exact q2.elim
end
end PL

set_option linter.all false
set_option maxRecDepth 100000
set_option maxHeartbeats 4000000
/-! PX: the same walk where an exception may leave: Z is what is wanted of it. -/
namespace PL
open PySem PySem.Spec L2
structure wpX (Z : Exn → Sto → Prop) {α : Type} (m : M α) (Q : α → Sto → Prop) (st : Sto) : Prop where
  run : match m st with
  | .ok a s => Q a s
  | .err x s => Z x s
  | .bad => False
section
variable {α β : Type} {Z : Exn → Sto → Prop} {m : M α} {Q Q' : α → Sto → Prop} {st : Sto} {f : α → M β} {P : β → Sto → Prop}
theorem wpX_is : wpX Z m Q st = (match m st with
  | .ok a s => Q a s
  | .err x s => Z x s
  | .bad => False) := propext ⟨fun h => h.run, fun h => ⟨h⟩⟩
theorem wpX_pure {a : α} : wpX Z (M.pure a) Q st = Q a st := wpX_is
theorem wpX_bad : wpX Z (M.bad : M α) Q st = False := wpX_is
theorem wpX_bind : wpX Z (m.bind f) P st = wpX Z m (fun a s => wpX Z (f a) P s) st := by
  rw [wpX_is, wpX_is]
  unfold M.bind
  cases m st <;> first | rfl | exact wpX_is.symm
theorem wpX_mono (h : wpX Z m Q st) (k : ∀ a s, Q a s → Q' a s) : wpX Z m Q' st := by
  rw [wpX_is] at h ⊢
  cases e : m st with
  | ok a s => rw [e] at h; exact k a s h
  | err x s => rw [e] at h; exact h
  | bad => rw [e] at h; exact h
theorem wp.x (h : wp m Q st) : wpX Z m Q st := by
  rw [wpX_is]
  rw [wp_is] at h
  cases e : m st with
  | ok a s => rw [e] at h; exact h
  | err x s => rw [e] at h; exact h.elim
  | bad => rw [e] at h; exact h.elim
theorem wpX_guard {c : Bool} : wpX Z (guardM c m) Q st = (c = true ∧ wpX Z m Q st) := by
  unfold guardM
  by_cases h : c = true
  · rw [if_pos h]; simp [h]
  · rw [if_neg h]; simp [h, wpX_bad]
theorem wpX_opt {o : Option α} : wpX Z (opt o) Q st = ∃ a, o = some a ∧ Q a st := by
  cases o with
  | none => simp [opt, wpX_bad]
  | some a => simp [opt, wpX_pure]
theorem wpX_some {a : α} : wpX Z (opt (some a)) Q st = Q a st := wpX_is
theorem wpX_line {n : Nat} {R : Unit → Sto → Prop} : wpX Z (line n) R st = (n ≤ sizeLine ∧ R () st) := by
  rw [wpX_is]
  unfold line
  by_cases h : n ≤ sizeLine
  · rw [if_pos h]; simp [h]
  · rw [if_neg h]; simp [h]
theorem wpX_put {i : Nat} {x : Slot} {ρ : En} {R : Fl × En → Sto → Prop} : wpX Z (put i x ρ) R st = (i < ρ.length ∧ R (.nx, ρ.set i x) st) := by
  unfold put
  by_cases h : i < ρ.length
  · rw [if_pos h, wpX_pure]; simp [h]
  · rw [if_neg h, wpX_bad]; simp [h]
theorem wpX_call {n : Nat} {sem : List D → M D} {ds : List D} {R : D → Sto → Prop} (hl : ds.length = n) (h : wpX Z (sem ds) R st) : wpX Z (if ds.length = n then sem ds else M.bad) R st := by rw [if_pos hl]; exact h
end
def SeqX (Z : Exn → Sto → Prop) (g : En → M (Fl × En)) (Q : Fl × En → Sto → Prop) : Fl × En → Sto → Prop := fun r s => match r.1 with
  | .nx => wpX Z (g r.2) Q s
  | _ => Q r s
section
variable {Z : Exn → Sto → Prop} {Q : Fl × En → Sto → Prop} {R : D → Sto → Prop} {T : Bool → Sto → Prop} {A : List D → Sto → Prop} {st : Sto} {ρ : En} {f g h : En → M D} {s1 s2 : En → M (Fl × En)} {t u : En → M Bool} {ga : En → M (List D)} {P1 P2 : Prop}
theorem kx_seq (k : wpX Z (s2 ρ) Q st) : SeqX Z s2 Q (.nx, ρ) st := k
theorem kx_seqR {d : D} (k : Q (.ret d, ρ) st) : SeqX Z s2 Q (.ret d, ρ) st := k
theorem kx_seqB (k : Q (.brk, ρ) st) : SeqX Z s2 Q (.brk, ρ) st := k
/-! ### bodies -/
theorem x_run {n : Nat} {ds : List D} (k : wpX Z (s1 (ds.map Slot.val ++ List.replicate (n - ds.length) Slot.no)) (RunK R) st) : wpX Z (runB n s1 ds) R st := by
  unfold runB
  rw [wpX_bind]
  refine wpX_mono k fun r s k => ?_
  obtain ⟨fl, ρ'⟩ := r
  cases fl <;> (first | exact k | exact ⟨k⟩ | (simp only [wpX_pure, wpX_some, wpX_line, wpX_bind]; exact k) | exact False.elim k | exact k.run.elim)
theorem x_run' {n : Nat} {ds : List D} (ρ : En) (e : ds.map Slot.val ++ List.replicate (n - ds.length) Slot.no = ρ) (k : wpX Z (s1 ρ) (RunK R) st) : wpX Z (runB n s1 ds) R st := x_run (by rw [e]; exact k)
theorem x_seq (k : wpX Z (s1 ρ) (SeqX Z s2 Q) st) : wpX Z (sSeq s1 s2 ρ) Q st := by
  unfold sSeq
  rw [wpX_bind]
  refine wpX_mono k fun r s k => ?_
  obtain ⟨fl, ρ'⟩ := r
  cases fl <;> (first | exact k | exact ⟨k⟩ | (simp only [wpX_pure, wpX_some, wpX_line, wpX_bind]; exact k) | exact False.elim k | exact k.run.elim)
theorem x_nil (k : Q (.nx, ρ) st) : wpX Z (sNil ρ) Q st := by first | exact k | exact ⟨k⟩
theorem x_pass (k : Q (.nx, ρ) st) : wpX Z (sPass ρ) Q st := by first | exact k | exact ⟨k⟩
theorem x_brk (k : Q (.brk, ρ) st) : wpX Z (sBrk ρ) Q st := by first | exact k | exact ⟨k⟩
theorem x_ct (k : Q (.ct, ρ) st) : wpX Z (sCt ρ) Q st := by first | exact k | exact ⟨k⟩
theorem x_ret (k : wpX Z (f ρ) (fun d s => Q (.ret d, ρ) s) st) : wpX Z (sRet f ρ) Q st := by unfold sRet; rw [wpX_bind]; (first | exact k | exact ⟨k⟩ | (simp only [wpX_pure, wpX_some, wpX_line, wpX_bind]; exact k) | exact False.elim k | exact k.run.elim)
theorem x_expr (k : wpX Z (f ρ) (fun d s => Q (.nx, ρ) s) st) : wpX Z (sExpr f ρ) Q st := by unfold sExpr; rw [wpX_bind]; (first | exact k | exact ⟨k⟩ | (simp only [wpX_pure, wpX_some, wpX_line, wpX_bind]; exact k) | exact False.elim k | exact k.run.elim)
theorem x_put {i : Nat} {x : Slot} (hi : i < ρ.length) (k : Q (.nx, ρ.set i x) st) : wpX Z (put i x ρ) Q st := by rw [wpX_put]; exact ⟨hi, k⟩
theorem x_set {i : Nat} (hi : i < ρ.length) (k : wpX Z (f ρ) (fun d s => Q (.nx, ρ.set i (.val d)) s) st) : wpX Z (sSet i f ρ) Q st := by
  unfold sSet; rw [wpX_bind]
  exact wpX_mono k fun d s k => x_put hi k
theorem x_own {i : Nat} (hi : i < ρ.length) (k : wpX Z (ga ρ) (fun d s => Q (.nx, ρ.set i (.own d)) s) st) : wpX Z (sOwn i ga ρ) Q st := by
  unfold sOwn; rw [wpX_bind]
  exact wpX_mono k fun d s k => x_put hi k
theorem x_frz {i : Nat} (k : wpX Z (s1 (frz1 i ρ)) Q st) : wpX Z (sFrz i s1 ρ) Q st := by first | exact k | exact ⟨k⟩
theorem x_if (k : wpX Z (t ρ) (fun b s => IfK (wpX Z (s1 ρ) Q s) (wpX Z (s2 ρ) Q s) b) st) : wpX Z (sIf t s1 s2 ρ) Q st := by
  unfold sIf; rw [wpX_bind]
  refine wpX_mono k fun b s k => ?_
  cases b with
  | true => (first | exact k.1 rfl | exact ⟨k.1 rfl⟩)
  | false => (first | exact k.2 rfl | exact ⟨k.2 rfl⟩)
theorem x_par {i j : Nat} (hi : i < ρ.length) (hj : j < ρ.length) (k : wpX Z (f ρ) (fun d s => wpX Z (g ρ) (fun e s => Q (.nx, (ρ.set i (.val d)).set j (.val e)) s) s) st) : wpX Z (sPar i j f g ρ) Q st := by
  unfold sPar; rw [wpX_bind]
  refine wpX_mono k fun d s k => ?_
  rw [wpX_bind]
  refine wpX_mono k fun e s k => ?_
  rw [wpX_bind]
  have : setAll [i, j] [d, e] ρ = some ((ρ.set i (.val d)).set j (.val e)) := by
    unfold setAll; rw [if_pos hi]; unfold setAll; rw [if_pos (by rw [List.length_set]; exact hj)]; rfl
  rw [this]; (first | exact k | exact ⟨k⟩ | (simp only [wpX_pure, wpX_some, wpX_line, wpX_bind]; exact k) | exact False.elim k | exact k.run.elim)
theorem x_parO {i j : Nat} (hi : i < ρ.length) (hj : j < ρ.length) (k : wpX Z (f ρ) (fun d s => wpX Z (ga ρ) (fun e s => Q (.nx, (ρ.set i (.val d)).set j (.own e)) s) s) st) : wpX Z (sParO i j f ga ρ) Q st := by
  unfold sParO; rw [wpX_bind]
  refine wpX_mono k fun d s k => ?_
  rw [wpX_bind]
  refine wpX_mono k fun e s k => ?_
  rw [wpX_bind]
  have : setAll [i] [d] ρ = some (ρ.set i (.val d)) := by unfold setAll; rw [if_pos hi]; rfl
  rw [this, wpX_some]
  exact x_put (by rw [List.length_set]; exact hj) k
theorem x_un {pt : Pt} (k : wpX Z (f ρ) (fun d s => ∃ r, pt.set d ρ = some r ∧ Q (.nx, r) s) st) : wpX Z (sUn pt f ρ) Q st := by
  unfold sUn; rw [wpX_bind]
  refine wpX_mono k fun d s ⟨r, e, k⟩ => ?_
  rw [wpX_bind, e]; (first | exact k | exact ⟨k⟩ | (simp only [wpX_pure, wpX_some, wpX_line, wpX_bind]; exact k) | exact False.elim k | exact k.run.elim)
theorem x_app {i : Nat} {ds : List D} (hi : ρ[i]? = some (.own ds)) (k : wpX Z (f ρ) (fun d s => ds.length + 1 ≤ sizeLine ∧ Q (.nx, ρ.set i (.own (ds ++ [d]))) s) st) : wpX Z (sApp i f ρ) Q st := by
  unfold sApp; rw [hi]
  show wpX Z ((f ρ).bind _) Q st
  rw [wpX_bind]
  refine wpX_mono k fun d s ⟨hl, k⟩ => ?_
  rw [wpX_bind, wpX_line]
  exact ⟨hl, x_put (List.getElem?_eq_some_iff.mp hi).1 k⟩
theorem x_ext {i : Nat} {ds : List D} (hi : ρ[i]? = some (.own ds)) (k : wpX Z (f ρ) (fun d s => ∃ es, d = .lst es ∧ ds.length + es.length ≤ sizeLine ∧ Q (.nx, ρ.set i (.own (ds ++ es))) s) st) : wpX Z (sExt i f ρ) Q st := by
  unfold sExt; rw [hi]
  show wpX Z ((f ρ).bind _) Q st
  rw [wpX_bind]
  refine wpX_mono k fun d s ⟨es, e, hl, k⟩ => ?_
  subst e
  show wpX Z ((line (ds.length + es.length)).bind fun _ => put i (.own (ds ++ es)) ρ) Q s
  rw [wpX_bind, wpX_line]
  exact ⟨hl, x_put (List.getElem?_eq_some_iff.mp hi).1 k⟩
/-! ### expressions -/
theorem x_var {i : Nat} {d : D} (hi : ρ[i]? = some (.val d)) (k : R d st) : wpX Z (eVar i ρ) R st := by unfold eVar; rw [hi]; (first | exact k | exact ⟨k⟩ | (simp only [wpX_pure, wpX_some, wpX_line, wpX_bind]; exact k) | exact False.elim k | exact k.run.elim)
theorem x_look {i : Nat} {ds : List D} (hi : ρ[i]? = some (.own ds)) (k : R (.lst ds) st) : wpX Z (eLook i ρ) R st := by unfold eLook; rw [hi]; (first | exact k | exact ⟨k⟩ | (simp only [wpX_pure, wpX_some, wpX_line, wpX_bind]; exact k) | exact False.elim k | exact k.run.elim)
theorem x_lookV {i : Nat} {d : D} (hi : ρ[i]? = some (.val d)) (k : R d st) : wpX Z (eLook i ρ) R st := by unfold eLook; rw [hi]; (first | exact k | exact ⟨k⟩ | (simp only [wpX_pure, wpX_some, wpX_line, wpX_bind]; exact k) | exact False.elim k | exact k.run.elim)
theorem x_c {d : D} (k : R d st) : wpX Z (eC d ρ) R st := by first | exact k | exact ⟨k⟩
theorem x_e1 {p : D → M D} (k : wpX Z (f ρ) (fun x s => wpX Z (p x) R s) st) : wpX Z (e1 p f ρ) R st := by unfold e1; rw [wpX_bind]; (first | exact k | exact ⟨k⟩ | (simp only [wpX_pure, wpX_some, wpX_line, wpX_bind]; exact k) | exact False.elim k | exact k.run.elim)
theorem x_e2 {p : D → D → M D} (k : wpX Z (f ρ) (fun x s => wpX Z (g ρ) (fun y s => wpX Z (p x y) R s) s) st) : wpX Z (e2 p f g ρ) R st := by
  unfold e2; rw [wpX_bind]
  refine wpX_mono k fun x s k => ?_
  rw [wpX_bind]; (first | exact k | exact ⟨k⟩ | (simp only [wpX_pure, wpX_some, wpX_line, wpX_bind]; exact k) | exact False.elim k | exact k.run.elim)
theorem x_aN (k : A [] st) : wpX Z (aNil ρ) A st := by first | exact k | exact ⟨k⟩
theorem x_aC (k : wpX Z (f ρ) (fun x s => wpX Z (ga ρ) (fun xs s => A (x :: xs) s) s) st) : wpX Z (aCons f ga ρ) A st := by
  unfold aCons; rw [wpX_bind]
  refine wpX_mono k fun x s k => ?_
  rw [wpX_bind]; (first | exact k | exact ⟨k⟩ | (simp only [wpX_pure, wpX_some, wpX_line, wpX_bind]; exact k) | exact False.elim k | exact k.run.elim)
theorem x_tup (k : wpX Z (ga ρ) (fun xs s => xs.length ≤ sizeLine ∧ R (.tup xs) s) st) : wpX Z (eTup ga ρ) R st := by
  unfold eTup; rw [wpX_bind]
  refine wpX_mono k fun x s k => ?_
  rw [wpX_bind, wpX_line]; (first | exact k | exact ⟨k⟩ | (simp only [wpX_pure, wpX_some, wpX_line, wpX_bind]; exact k) | exact False.elim k | exact k.run.elim)
theorem x_lst (k : wpX Z (ga ρ) (fun xs s => xs.length ≤ sizeLine ∧ R (.lst xs) s) st) : wpX Z (eLst ga ρ) R st := by
  unfold eLst; rw [wpX_bind]
  refine wpX_mono k fun x s k => ?_
  rw [wpX_bind, wpX_line]; (first | exact k | exact ⟨k⟩ | (simp only [wpX_pure, wpX_some, wpX_line, wpX_bind]; exact k) | exact False.elim k | exact k.run.elim)
theorem x_fLst (k : wpX Z (ga ρ) (fun xs s => xs.length ≤ sizeLine ∧ A xs s) st) : wpX Z (fLst ga ρ) A st := by
  unfold fLst; rw [wpX_bind]
  refine wpX_mono k fun x s k => ?_
  rw [wpX_bind, wpX_line]; (first | exact k | exact ⟨k⟩ | (simp only [wpX_pure, wpX_some, wpX_line, wpX_bind]; exact k) | exact False.elim k | exact k.run.elim)
theorem x_eL (k : wpX Z (ga ρ) (fun xs s => R (.lst xs) s) st) : wpX Z (eL ga ρ) R st := by unfold eL; rw [wpX_bind]; (first | exact k | exact ⟨k⟩ | (simp only [wpX_pure, wpX_some, wpX_line, wpX_bind]; exact k) | exact False.elim k | exact k.run.elim)
theorem x_call {n : Nat} {sem : List D → M D} (k : wpX Z (ga ρ) (fun ds s => ds.length = n ∧ wpX Z (sem ds) R s) st) : wpX Z (eCall n sem ga ρ) R st := by
  unfold eCall; rw [wpX_bind]
  refine wpX_mono k fun ds s ⟨hl, k⟩ => ?_
  exact wpX_call hl k
theorem x_tBl (k : wpX Z (f ρ) (BlK T) st) : wpX Z (tBl f ρ) T st := by
  unfold tBl; rw [wpX_bind]
  refine wpX_mono k fun d s k => ?_
  cases d <;> (first | exact k | exact ⟨k⟩ | (simp only [wpX_pure, wpX_some, wpX_line, wpX_bind]; exact k) | exact False.elim k | exact k.run.elim)
theorem x_tNt (k : wpX Z (t ρ) (fun b s => T (!b) s) st) : wpX Z (tNt t ρ) T st := by unfold tNt; rw [wpX_bind]; (first | exact k | exact ⟨k⟩ | (simp only [wpX_pure, wpX_some, wpX_line, wpX_bind]; exact k) | exact False.elim k | exact k.run.elim)
theorem x_tAn (k : wpX Z (t ρ) (fun b s => IfK (wpX Z (u ρ) T s) (T false s) b) st) : wpX Z (tAn t u ρ) T st := by
  unfold tAn; rw [wpX_bind]
  refine wpX_mono k fun b s k => ?_
  cases b with
  | true => (first | exact k.1 rfl | exact ⟨k.1 rfl⟩)
  | false => (first | exact k.2 rfl | exact ⟨k.2 rfl⟩)
theorem x_tOr (k : wpX Z (t ρ) (fun b s => IfK (T true s) (wpX Z (u ρ) T s) b) st) : wpX Z (tOor t u ρ) T st := by
  unfold tOor; rw [wpX_bind]
  refine wpX_mono k fun b s k => ?_
  cases b with
  | true => (first | exact k.1 rfl | exact ⟨k.1 rfl⟩)
  | false => (first | exact k.2 rfl | exact ⟨k.2 rfl⟩)
theorem x_vAnd (k : wpX Z (f ρ) (BlK fun b s => IfK (wpX Z (g ρ) R s) (R (.bl false) s) b) st) : wpX Z (vAnd f g ρ) R st := by
  unfold vAnd; rw [wpX_bind]
  refine wpX_mono k fun d s k => ?_
  cases d with
  | bl b => cases b with
    | true => (first | exact k.1 rfl | exact ⟨k.1 rfl⟩)
    | false => (first | exact k.2 rfl | exact ⟨k.2 rfl⟩)
  | _ => (first | exact k | exact ⟨k⟩ | (simp only [wpX_pure, wpX_some, wpX_line, wpX_bind]; exact k) | exact False.elim k | exact k.run.elim)
theorem x_vOr (k : wpX Z (f ρ) (BlK fun b s => IfK (R (.bl true) s) (wpX Z (g ρ) R s) b) st) : wpX Z (vOr f g ρ) R st := by
  unfold vOr; rw [wpX_bind]
  refine wpX_mono k fun d s k => ?_
  cases d with
  | bl b => cases b with
    | true => (first | exact k.1 rfl | exact ⟨k.1 rfl⟩)
    | false => (first | exact k.2 rfl | exact ⟨k.2 rfl⟩)
  | _ => (first | exact k | exact ⟨k⟩ | (simp only [wpX_pure, wpX_some, wpX_line, wpX_bind]; exact k) | exact False.elim k | exact k.run.elim)
theorem x_vNot (k : wpX Z (f ρ) (BlK fun b s => R (.bl (!b)) s) st) : wpX Z (vNot f ρ) R st := by
  unfold vNot; rw [wpX_bind]
  refine wpX_mono k fun d s k => ?_
  cases d <;> (first | exact k | exact ⟨k⟩ | (simp only [wpX_pure, wpX_some, wpX_line, wpX_bind]; exact k) | exact False.elim k | exact k.run.elim)
theorem x_eIf (k : wpX Z (t ρ) (fun b s => IfK (wpX Z (f ρ) R s) (wpX Z (g ρ) R s) b) st) : wpX Z (eIf t f g ρ) R st := by
  unfold eIf; rw [wpX_bind]
  refine wpX_mono k fun b s k => ?_
  cases b with
  | true => (first | exact k.1 rfl | exact ⟨k.1 rfl⟩)
  | false => (first | exact k.2 rfl | exact ⟨k.2 rfl⟩)
theorem x_eCh {p q : D → D → M D} (k : wpX Z (f ρ) (fun x s => wpX Z (g ρ) (fun y s => wpX Z (p x y) (BlK fun b s => IfK (wpX Z (h ρ) (fun z s => wpX Z (q y z) R s) s) (R (.bl false) s) b) s) s) st) : wpX Z (eCh p q f g h ρ) R st := by
  unfold eCh; rw [wpX_bind]
  refine wpX_mono k fun x s k => ?_
  rw [wpX_bind]
  refine wpX_mono k fun y s k => ?_
  rw [wpX_bind]
  refine wpX_mono k fun d s k => ?_
  cases d with
  | bl b => cases b with
    | true =>
      show wpX Z ((h ρ).bind fun u => q y u) R s
      rw [wpX_bind]; (first | exact k.1 rfl | exact ⟨k.1 rfl⟩)
    | false => (first | exact k.2 rfl | exact ⟨k.2 rfl⟩)
  | _ => (first | exact k | exact ⟨k⟩ | (simp only [wpX_pure, wpX_some, wpX_line, wpX_bind]; exact k) | exact False.elim k | exact k.run.elim)
theorem x_neg (k : wpX Z (f ρ) (IntK fun i s => R (.int (-i)) s) st) : wpX Z (eNeg f ρ) R st := by
  unfold eNeg; rw [wpX_bind]
  refine wpX_mono k fun d s k => ?_
  cases d <;> (first | exact k | exact ⟨k⟩ | (simp only [wpX_pure, wpX_some, wpX_line, wpX_bind]; exact k) | exact False.elim k | exact k.run.elim)
variable {lo hi : En → M (Option Int)} {O : Option Int → Sto → Prop}
theorem x_oNo (k : O none st) : wpX Z (oNo ρ) O st := by first | exact k | exact ⟨k⟩
theorem x_oSo (k : wpX Z (f ρ) (IntK fun i s => O (some i) s) st) : wpX Z (oSo f ρ) O st := by
  unfold oSo; rw [wpX_bind]
  refine wpX_mono k fun d s k => ?_
  cases d <;> (first | exact k | exact ⟨k⟩ | (simp only [wpX_pure, wpX_some, wpX_line, wpX_bind]; exact k) | exact False.elim k | exact k.run.elim)
theorem x_sl (k : wpX Z (f ρ) (fun x s => wpX Z (lo ρ) (fun l s => wpX Z (hi ρ) (fun h s => wpX Z (slM x l h) R s) s) s) st) : wpX Z (eSl f lo hi ρ) R st := by
  unfold eSl; rw [wpX_bind]
  refine wpX_mono k fun x s k => ?_
  rw [wpX_bind]
  refine wpX_mono k fun x s k => ?_
  rw [wpX_bind]; (first | exact k | exact ⟨k⟩ | (simp only [wpX_pure, wpX_some, wpX_line, wpX_bind]; exact k) | exact False.elim k | exact k.run.elim)
theorem x_m1 {q : Str → D → M D} (k : wpX Z (f ρ) (StrK fun a s => wpX Z (g ρ) (fun y s => wpX Z (q a y) R s) s) st) : wpX Z (eM1 q f g ρ) R st := by
  unfold eM1; rw [wpX_bind]
  refine wpX_mono k fun d s k => ?_
  cases d with
  | str a =>
    show wpX Z ((g ρ).bind fun y => q a y) R s
    rw [wpX_bind]; (first | exact k | exact ⟨k⟩ | (simp only [wpX_pure, wpX_some, wpX_line, wpX_bind]; exact k) | exact False.elim k | exact k.run.elim)
  | _ => (first | exact k | exact ⟨k⟩ | (simp only [wpX_pure, wpX_some, wpX_line, wpX_bind]; exact k) | exact False.elim k | exact k.run.elim)
theorem x_iR1 {A : List D → Sto → Prop} (k : wpX Z (ga ρ) (fun ds s => ∃ n, ds = [.int n] ∧ wpX Z (rangeL 0 n) A s) st) : wpX Z (iRange1 ga ρ) A st := by
  unfold iRange1; rw [wpX_bind]
  refine wpX_mono k fun ds s ⟨n, e, k⟩ => ?_
  subst e; (first | exact k | exact ⟨k⟩ | (simp only [wpX_pure, wpX_some, wpX_line, wpX_bind]; exact k) | exact False.elim k | exact k.run.elim)
theorem x_iSeq {A : List D → Sto → Prop} (k : wpX Z (f ρ) (fun d s => ∃ ds, itD d = some ds ∧ A ds s) st) : wpX Z (iSeq f ρ) A st := by
  unfold iSeq; rw [wpX_bind]
  refine wpX_mono k fun d s ⟨ds, e, k⟩ => ?_
  rw [e]; (first | exact k | exact ⟨k⟩ | (simp only [wpX_pure, wpX_some, wpX_line, wpX_bind]; exact k) | exact False.elim k | exact k.run.elim)
theorem x_for {it : En → M (List D)} {p : Pt} (k : wpX Z (it ρ) (fun ds s => wpX Z (forL (fun d ρ => (opt (p.set d ρ)).bind s1) ds ρ) Q s) st) : wpX Z (sFor it p s1 ρ) Q st := by unfold sFor; rw [wpX_bind]; (first | exact k | exact ⟨k⟩ | (simp only [wpX_pure, wpX_some, wpX_line, wpX_bind]; exact k) | exact False.elim k | exact k.run.elim)
theorem x_lc {it : En → M (List D)} {p : Pt} {vs : List Nat} (k : wpX Z (it ρ) (fun ds s => wp (lcL p.set t f (wipeE ρ vs) ds) A s) st) : wpX Z (eLc it p vs t f ρ) A st := by
  unfold eLc; rw [wpX_bind]
  refine wpX_mono k fun ds s k => ?_
  refine wp.x ?_
  rw [wp_noX]; exact k
theorem w_lc2 {it it1 : En → M (List D)} {p p1 : Pt} {vs vs1 : List Nat} {t1 : En → M Bool} (k : wp (it ρ) (fun ds s => wp (lc2A p.set t it1 p1.set vs1 t1 f (wipeE ρ vs) [] ds) A s) st) : wp (eLc2 it p vs t it1 p1 vs1 t1 f ρ) A st := by
  unfold eLc2; rw [wp_bind]
  refine wp_mono k fun ds s k => ?_
  rw [wp_noX]; exact k
theorem x_lc2 {it it1 : En → M (List D)} {p p1 : Pt} {vs vs1 : List Nat} {t1 : En → M Bool} (k : wpX Z (it ρ) (fun ds s => wp (lc2A p.set t it1 p1.set vs1 t1 f (wipeE ρ vs) [] ds) A s) st) : wpX Z (eLc2 it p vs t it1 p1 vs1 t1 f ρ) A st := by
  unfold eLc2; rw [wpX_bind]
  refine wpX_mono k fun ds s k => ?_
  refine wp.x ?_
  rw [wp_noX]; exact k
theorem x_true (k : T true st) : wpX Z (tTrue ρ) T st := by first | exact k | exact ⟨k⟩
theorem x_raise {x f g : Str} (k : wpX Z (ga ρ) (fun ds s => ∃ a b, ds = [a, b] ∧ Z ⟨x, [(g, b), (f, a)]⟩ s) st) : wpX Z (sRaise x f g ga ρ) Q st := by
  unfold sRaise; rw [wpX_bind]
  refine wpX_mono k fun ds s ⟨a, b, e, k⟩ => ?_
  subst e
  exact ⟨k⟩
theorem w_star (k : wp (f ρ) (fun d s => ∃ xs, seqD d = some xs ∧ wp (ga ρ) (fun ys s => A (xs ++ ys) s) s) st) : wp (aStar f ga ρ) A st := by
  unfold aStar; rw [wp_bind]
  refine wp_mono k fun d s ⟨xs, e, k⟩ => ?_
  rw [wp_bind, e, wp_some, wp_bind]
  simp only [wp_pure]; exact k
theorem x_star (k : wpX Z (f ρ) (fun d s => ∃ xs, seqD d = some xs ∧ wpX Z (ga ρ) (fun ys s => A (xs ++ ys) s) s) st) : wpX Z (aStar f ga ρ) A st := by
  unfold aStar; rw [wpX_bind]
  refine wpX_mono k fun d s ⟨xs, e, k⟩ => ?_
  rw [wpX_bind, e, wpX_some, wpX_bind]
  simp only [wpX_pure]; exact k
/-- what is heard -/
theorem w_hear {P : Addr} {q x f g : Str} {b : En → M D} (ht : Ob.tab P q ∈ st) (hne : f ≠ g) (k : wpX (fun e s => ∃ v1 v2, e = ⟨x, [(g, v2), (f, v1)]⟩ ∧ R (.tup [.str x, v1, v2]) s) (b ρ) (fun d s => R (.tup [.str "gave", d]) s) st) : wp (eHear P q x f g b ρ) R st := by
  rw [wp_is]
  have h : st.any (tabIs P q) = true := List.any_eq_true.mpr ⟨_, ht, decide_eq_true ⟨rfl, rfl⟩⟩
  rw [wpX_is] at k
  cases e : b ρ st with
  | ok d s =>
    rw [e] at k
    have : eHear P q x f g b ρ st = .ok (.tup [.str "gave", d]) s := by unfold eHear; simp only [h, e, if_true]
    rw [this]; exact k
  | err y s =>
    rw [e] at k
    obtain ⟨v1, v2, rfl, k⟩ := k
    have : eHear P q x f g b ρ st = .ok (.tup [.str x, v1, v2]) s := by unfold eHear; simp only [h, e, if_true, and_self, hne, ne_eq, not_false_eq_true]
    rw [this]; exact k
  | bad => rw [e] at k; exact k.elim
/-- a walk with one name: I by the number of items that are done; the body goes on -/
theorem for_eachX {bd : En → M (Fl × En)} {p : Pt} (I : Nat → En → Sto → Prop) : ∀ (ds : List D) (j : Nat) (ρ : En) (st : Sto), (∀ m d ρ s, ds[m]? = some d → I (j + m) ρ s → ∃ ρ', p.set d ρ = some ρ' ∧ wpX Z (bd ρ') (fun r s' => r.1 = .nx ∧ I (j + m + 1) r.2 s') s) → I j ρ st →
    (∀ ρ s, I (j + ds.length) ρ s → Q (.nx, ρ) s) → wpX Z (forL (fun d ρ => (opt (p.set d ρ)).bind bd) ds ρ) Q st
  | [], j, ρ, st, _, hI, k => by unfold forL; rw [wpX_pure]; exact k ρ st hI
  | d :: ds, j, ρ, st, hs, hI, k => by
    unfold forL
    obtain ⟨ρ', e, h⟩ := hs 0 d ρ st rfl hI
    rw [e]
    show wpX Z ((bd ρ').bind _) Q st
    rw [wpX_bind]
    refine wpX_mono h fun r s1 ⟨e1, h1⟩ => ?_
    obtain ⟨fl, ρ1⟩ := r
    cases e1
    exact for_eachX I ds (j + 1) ρ1 s1 (fun m d ρ s hm hi => by
      have := hs (m + 1) d ρ s (by simpa using hm) (by rw [show j + (m + 1) = j + 1 + m by omega]; exact hi)
      rw [show j + (m + 1) + 1 = j + 1 + m + 1 by omega] at this
      exact this) h1 fun ρ s h => k ρ s (by rw [List.length_cons, show j + (ds.length + 1) = j + 1 + ds.length by omega]; exact h)
end
end PL

set_option linter.all false
set_option maxRecDepth 100000
set_option maxHeartbeats 4000000
/-! PL26: a new list of texts that a def without parameters makes of nothing, kept by its caller. -/
namespace PL
open PySem PySem.Spec L2
variable {wW : World}
def strsOf (d : D) : Option (List Str) := match d with
  | .lst ds => strsD ds
  | _ => none
/-- run on no store at all; the caller's store stays -/
def fCall0 (sem : List D → M D) : En → M (List D) := fun _ st => match sem [] [] with
  | .ok d _ => (match strsOf d with
    | some xs => .ok (xs.map D.str) st
    | none => .bad)
  | _ => .bad
section
variable {X : Cx} {E : XK} {H0 : Hp} {x : Str} {p pos : Pos}
theorem jcall0F {k : Nat} {sem : List D → M D} (C : Own X.prog X.w X.K X.mg X.base k x [] sem) (hr : Room k X.A) (hx : Passes (L2.CX X.prog X.w) X E) (hg : Gl X x := by rfl) (hdb : (x == ("__debug__" : Str)) = false := by decide) : JF X E H0 (fCall0 sem) (.Call (.Name x p) [] [] pos) := by
  obtain ⟨fa, fd, F, m, kp, b, _⟩ := C.ex
  refine PE.imp (pe_call0 F hr hg m kp (.all b) .nil hx hdb) fun σ H Q ⟨G, μ, st, ρ, w, er, q⟩ => ?_
  refine ⟨fun _ => none, fun _ => none, [], [], ⟨fun a o h => (nomatch h), fun n o h => (by simp at h), fun n m a h => (nomatch h), fun n a h => (nomatch h)⟩, .nil, rfl, ?_⟩
  have q' : Post X.w X.K X.mg E (rFresh X.K) H G μ (fCall0 sem ρ st) Q := q
  unfold fCall0 at q'
  cases e : sem [] [] with
  | bad => rw [e] at q'; exact q'.elim
  | err y s => rw [e] at q'; exact q'.elim
  | ok d s =>
    rw [e] at q'
    dsimp only at q'
    cases e2 : strsOf d with
    | none => rw [e2] at q'; exact q'.elim
    | some xs =>
      rw [e2] at q'
      intro v H' G' μ' w' s' r
      cases d with
      | lst ds =>
        cases r with
        | lst h rr =>
          rename_i a vs
          have ev := strs_rep rr e2
          subst ev
          have ha : H a = none := s'.ng a rfl (by rw [h]; simp)
          have keep : ∀ b o, H b = some o → H' b = some o := fun b o hb => s'.fr b o hb fun n hn => (nomatch hn)
          have gn : G a = none := by
            cases g : G a with
            | none => rfl
            | some o => have := w.imm a o g; rw [ha] at this; cases this
          have mn : ∀ n, μ n ≠ some a := fun n hn => by
            obtain ⟨c, h1, _, h3⟩ := w.obj n _ (List.getElem?_eq_getElem (w.dom n a hn))
            rw [hn] at h1; cases h1
            obtain ⟨u, hu⟩ := h3.there
            rw [ha] at hu; cases hu
          exact q' (.ref a) H' G μ ⟨fun b o hb => keep b o (w.imm b o hb), fun n o hn => let ⟨c, h1, h2, h3⟩ := w.obj n o hn; ⟨c, h1, h2, h3.mono (Sub.refl _) (fun _ _ h => h) (keep c)⟩, w.inj, w.dom⟩
            ⟨Sub.refl _, fun _ _ h => h, fun b o hb _ => keep b o hb, fun b o hb => ⟨o, keep b o hb⟩, fun b h1 h2 => absurd h1 h2, fun n b h1 h2 => by rw [h1] at h2; cases h2⟩
            ⟨a, xs.map V.str, rfl, w'.imm a _ h, rep_strs xs, gn, mn, ha⟩
      | _ => cases e2
end
theorem w_call0F {sem : List D → M D} {ρ : En} {A : List D → Sto → Prop} {st : Sto} (h : wp (sem []) (fun d _ => ∃ xs : List Str, d = .lst (xs.map D.str) ∧ A (xs.map D.str) st) []) : wp (fCall0 sem ρ) A st := by
  obtain ⟨d, s, e, xs, rfl, k⟩ := wp_ok h
  have es : ∀ ys : List Str, strsD (ys.map D.str) = some ys := fun ys => by
    induction ys with
    | nil => rfl
    | cons y ys ih => show (strsD (ys.map D.str)).map (y :: ·) = _; rw [ih]; rfl
  refine wp_of (a := xs.map D.str) (s := st) ?_ k
  unfold fCall0
  rw [e]
  dsimp only [strsOf]
  rw [es]
end PL

set_option linter.all false
set_option maxRecDepth 100000
set_option maxHeartbeats 4000000
/-! PL27: a text some times. -/
namespace PL
open PySem PySem.Spec L2
variable {wW : World}
def repS (a : Str) (n : Nat) : Str := ⟨(List.replicate n a.cps).foldl (· ++ ·) #[]⟩
def rTimes : R2 := fun x y H Q => ∃ (a : Str) (n : Nat), x = .str a ∧ y = .int (n : Nat) ∧ 2 ≤ n ∧ n ≤ 100000 ∧ 1 ≤ a.length ∧ a.length * n ≤ 1000000 ∧ (repS a n).length ≤ sizeLine ∧ Q (.str (repS a n)) H
def mulSM (x y : D) : M D := match x, y with
  | .str a, .int i => guardM (decide (2 ≤ i) && decide (i ≤ 100000) && decide (1 ≤ a.length) && decide (a.length * i.toNat ≤ 1000000) && decide ((repS a i.toNat).length ≤ sizeLine)) (M.pure (.str (repS a i.toNat)))
  | _, _ => M.bad
section
variable {X : Cx} {E : XK}
theorem op_mulS : OpR X (binaryOp .Mult) rTimes := by
  intro pins s σ H x y v u Q I rx ry h
  obtain ⟨a, n, rfl, rfl, h2, hn, ha, hp, hz, q⟩ := h
  obtain ⟨t, rfl⟩ := rx
  obtain ⟨t', rfl⟩ := ry
  have e1 : ((n : Nat) : Int).toNat = n := Int.toNat_natCast n
  have ne1 : ¬ ((n : Int) < 1) := by omega
  have nz : (((n : Int) == 1) || (a.length == 0)) = false := by
    rw [Bool.or_eq_false_iff]
    exact ⟨beq_eq_false_iff_ne.mpr (by omega), beq_eq_false_iff_ne.mpr (by omega)⟩
  refine PySem.P.mul_str ?_ ?_ ?_ ?_
  · rw [decide_eq_false (by omega), decide_eq_false (by omega)]; rfl
  · intro _ _ hgt
    have hm : (a.length : Int) * n ≤ 1000000 := by rw [← Int.natCast_mul]; omega
    have hd : ((2 : Int) ^ 63 - 1) / n < a.length := hgt
    have := Int.lt_mul_of_ediv_lt (by omega : (0 : Int) < n) hd
    omega
  · intro _ _
    rw [e1]
    exact decide_eq_false (by
      intro c
      have : sizeLine = 16777216 := by decide
      omega)
  · rw [if_neg ne1, if_neg (by rw [nz]; decide), e1]
    exact ⟨hz, ⟨.str (repS a n), H, I.tok _, ⟨_, rfl⟩, q⟩⟩
theorem o_mulS : OpJ X E rTimes mulSM := fun H G μ st x y dx dy Q w rx ry h => by
  cases dx with
  | str a =>
    cases dy with
    | int i =>
      cases rx.str
      cases ry.int
      obtain ⟨c, h⟩ := Post.guard h
      simp only [Bool.and_eq_true, decide_eq_true_eq] at c
      obtain ⟨⟨⟨⟨c1, c2⟩, c3⟩, c4⟩, c5⟩ := c
      refine ⟨a, i.toNat, rfl, ?_, by omega, by omega, c3, c4, c5, h _ _ _ _ w .refl (.str _)⟩
      rw [Int.toNat_of_nonneg (by omega)]
    | _ => exact h.elim
  | _ => exact h.elim
end
theorem w_mulS {a : Str} {n : Nat} {R : D → Sto → Prop} {st : Sto} (h1 : 2 ≤ n) (h2 : n ≤ 100000) (h3 : 1 ≤ a.length) (h4 : a.length * n ≤ 1000000) (h5 : (repS a n).length ≤ sizeLine) (k : R (.str (repS a n)) st) : wp (mulSM (.str a) (.int (n : Nat))) R st := by
  show wp (guardM _ (M.pure _)) R st
  have e : ((n : Nat) : Int).toNat = n := Int.toNat_natCast n
  rw [wp_guard, wp_pure, e]
  refine ⟨?_, k⟩
  simp only [Bool.and_eq_true, decide_eq_true_eq]
  exact ⟨⟨⟨⟨by omega, by omega⟩, h3⟩, h4⟩, h5⟩
end PL

set_option linter.all false
set_option maxRecDepth 100000
set_option maxHeartbeats 4000000
/-! PL28: dicts of the store whose keys are nested tuples: {}, k in d, d[k], d[k] = v. -/
namespace PL
open PySem PySem.Spec L2
def keyN : D → Option NestedKey
  | .tup ds => (nkD (.tup ds)).bind fun k => if k.depth ≤ 8 then some k else none
  | _ => none
def valN (k : NestedKey) : List (D × D) → Option D
  | [] => none
  | q :: r => if nkD q.1 = some k then some q.2 else valN k r
def putN (kvs : List (D × D)) (kd : D) (k : NestedKey) (v : D) : List (D × D) := if (valN k kvs).isSome = true then kvs.map (fun q => if nkD q.1 = some k then (q.1, v) else q) else kvs ++ [(kd, v)]
section
variable {X : Cx} {pins : List (Addr × Obj)} {σ : L2.St} {H G : Hp} {μ : Mu} {s : Shared}
mutual
theorem rep_nk (I : Inv X pins σ H s) (g : Sub G H) : ∀ {d : D} {v : V} {k : NestedKey} {u : Value}, Rep X.K G μ v d → nkD d = some k → RelV v u → NestedIs s.heap k u
  | .non, _, _, _, .non, e, r => by
    cases e
    have r' : _ = Value.none := r
    subst r'
    exact .none
  | .bl b, _, _, _, .bl _, e, r => by
    cases e
    have r' : _ = Value.bool b := r
    subst r'
    exact .bool rfl
  | .int i, _, _, _, .int _, e, r => by
    cases e
    obtain ⟨t, rfl⟩ := r
    exact .int _ _
  | .str x, _, _, _, .str _, e, r => by
    cases e
    obtain ⟨t, rfl⟩ := r
    exact .text _ _
  | .tup ds, _, _, _, .tup h rr, e, r => by
    unfold nkD at e
    obtain ⟨ks, e1, rfl⟩ := Option.map_eq_some_iff.mp e
    have r' : _ = Value.ref _ := r
    subst r'
    obtain ⟨its, rv, ⟨o, ho, hc, n, hd⟩, _⟩ := I.tuple (g.sqT h)
    exact .tup ho hc hd (by simpa using rep_nks I g rr e1 rv)
  | .lst ds, _, _, _, .lst _ _, e, _ => by unfold nkD at e; cases e
  | .frz ds, _, _, _, .frz _ _, e, _ => by unfold nkD at e; cases e
  | .ref n, _, _, _, .ref _, e, _ => by unfold nkD at e; cases e
theorem rep_nks (I : Inv X pins σ H s) (g : Sub G H) : ∀ {ds : List D} {vs : List V} {ks : List NestedKey} {us : List Value}, RepL X.K G μ vs ds → nkL ds = some ks → Vals vs us → NestedAll s.heap ks us
  | [], _, _, _, .nil, e, r => by
    unfold nkL at e
    cases e
    cases r
    exact .nil
  | d :: ds, _, _, _, .cons h t, e, r => by
    unfold nkL at e
    obtain ⟨k, e1, e2⟩ := Option.bind_eq_some_iff.mp e
    obtain ⟨ks, e3, rfl⟩ := Option.map_eq_some_iff.mp e2
    cases r with
    | cons r1 r2 => exact .cons (rep_nk I g h e1 r1) (rep_nks I g t e3 r2)
end
theorem NR.keys_at {K : PySem.W.Frag} : ∀ {kvs : List (D × D)} {ks : List (NestedKey × Addr)} {vs : List V}, NR K G μ ks vs kvs → ∀ k ∈ ks, ∃ d, nkD d = some k.1 ∧ Rep K G μ (.ref k.2) d ∧ k.1.depth ≤ 8
  | [], ks, vs, x, k, hk => by
    have e := congrArg List.length x.nk
    simp only [List.length_map, List.length_nil] at e
    have : ks = [] := List.eq_nil_of_length_eq_zero e.symm
    rw [this] at hk; cases hk
  | q :: kvs, [], vs, x, k, hk => by cases hk
  | q :: kvs, k0 :: ks, vs, x, k, hk => by
    obtain ⟨e1, e2, e3, e4⟩ := x
    simp only [List.map_cons, List.cons.injEq] at e1
    cases vs with
    | nil => simp only [List.map_cons] at e4; cases e4
    | cons v vs =>
      simp only [List.map_cons] at e3 e4
      cases e3 with
      | cons e5 e6 =>
        cases e4 with
        | cons e7 e8 =>
          rcases List.mem_cons.mp hk with rfl | hk
          · exact ⟨q.1, e1.1, e5, e2 k List.mem_cons_self⟩
          · exact NR.keys_at ⟨e1.2, fun k h => e2 k (List.mem_cons_of_mem _ h), e6, e8⟩ k hk
/-- the dict, told as the library tells it -/
theorem raw_of (I : Inv X pins σ H s) (g : Sub G H) {a : Addr} {ks : List (NestedKey × Addr)} {vs : List V} {kvs : List (D × D)} (ha : H a = some (.ext (RawN X.w a ks vs))) (n : NR X.K G μ ks vs kvs) :
    ∃ xs : List (NestedKey × Addr × Value), xs.map (fun x => (x.1, x.2.1)) = ks ∧ Vals vs (xs.map (·.2.2)) ∧ (a == sysModules) = false ∧ xs.length ≤ sizeLine ∧ s.heap.DictOfH (nestedKind X.prog X.w) a xs := by
  obtain ⟨⟨xs, h1, h2, h3, h4, o, es, ep, h5, h6, h7, h8, h9⟩, _⟩ := I.hok a _ ha
  refine ⟨xs, h1, h2, h3, h4, o, es, ep, h5, h6, h7, h8, fun x hx => ?_, h9⟩
  have hk : (x.1, x.2.1) ∈ ks := by rw [← h1]; exact List.mem_map.mpr ⟨x, hx, rfl⟩
  obtain ⟨d, e1, e2, e3⟩ := n.keys_at _ hk
  exact ⟨rep_nk I g e2 e1 rfl, e3⟩
/-- what is found under a key -/
theorem at_nr {K : PySem.W.Frag} {k : NestedKey} : ∀ {kvs : List (D × D)} {ks : List (NestedKey × Addr)} {vs : List V} {xs : List (NestedKey × Addr × Value)}, NR K G μ ks vs kvs → xs.map (fun x => (x.1, x.2.1)) = ks → Vals vs (xs.map (·.2.2)) →
    (match valN k kvs with
    | some d => ∃ p v, atKey xs k = some p ∧ RelV v p.2 ∧ Rep K G μ v d
    | none => atKey xs k = none)
  | [], ks, vs, xs, x, e, r => by
    have e' := congrArg List.length x.nk
    rw [← e] at e'
    simp only [List.length_map, List.length_nil] at e'
    have : xs = [] := List.eq_nil_of_length_eq_zero e'.symm
    subst this; rfl
  | q :: kvs, ks, vs, [], x, e, r => by
    have e' := x.nk
    rw [← e] at e'
    simp at e'
  | q :: kvs, ks, vs, y :: xs, x, e, r => by
    obtain ⟨e1, e2, e3, e4⟩ := x
    subst e
    simp only [List.map_cons, List.cons.injEq] at e1
    simp only [List.map_cons] at e3 e4 r
    cases r with
    | cons r1 r2 =>
      cases e3 with
      | cons e5 e6 =>
        cases e4 with
        | cons e7 e8 =>
          unfold valN
          by_cases h : nkD q.1 = some k
          · rw [if_pos h]
            have hk : y.1 = k := Option.some.inj (e1.1.symm.trans h)
            exact ⟨y.2, _, by simp [atKey, hk], r1, e7⟩
          · rw [if_neg h]
            have hk : ¬ y.1 = k := fun z => h (e1.1.trans (congrArg some z))
            have ih := at_nr (k := k) (kvs := kvs) ⟨e1.2, fun k h => e2 k (List.mem_cons_of_mem _ h), e6, e8⟩ rfl r2
            have ea : atKey (y :: xs) k = atKey xs k := by simp [atKey, List.find?_cons, hk]
            rw [ea]; exact ih
theorem put_nr {K : PySem.W.Frag} {k : NestedKey} {u : Value} {v : V} {d : D} (ru : RelV v u) (rd : Rep K G μ v d) : ∀ {kvs : List (D × D)} {ks : List (NestedKey × Addr)} {vs : List V} {xs : List (NestedKey × Addr × Value)}, NR K G μ ks vs kvs → xs.map (fun x => (x.1, x.2.1)) = ks → Vals vs (xs.map (·.2.2)) →
    ∃ vs', Vals vs' ((xs.map (putAt k u)).map (·.2.2)) ∧ NR K G μ ks vs' (kvs.map fun q => if nkD q.1 = some k then (q.1, d) else q)
  | [], ks, vs, xs, x, e, r => by
    have e' := congrArg List.length x.nk
    rw [← e] at e'
    simp only [List.length_map, List.length_nil] at e'
    have : xs = [] := List.eq_nil_of_length_eq_zero e'.symm
    subst this
    exact ⟨vs, r, x⟩
  | q :: kvs, ks, vs, [], x, e, r => by
    have e' := x.nk
    rw [← e] at e'
    simp at e'
  | q :: kvs, ks, vs, y :: xs, x, e, r => by
    obtain ⟨e1, e2, e3, e4⟩ := x
    subst e
    simp only [List.map_cons, List.cons.injEq] at e1
    simp only [List.map_cons] at e3 e4 r
    cases r with
    | @cons v0 u0 l1 l2 r1 r2 =>
      cases e3 with
      | cons e5 e6 =>
        cases e4 with
        | cons e7 e8 =>
          obtain ⟨vs', i1, i2⟩ := put_nr (k := k) ru rd (kvs := kvs) ⟨e1.2, fun k h => e2 k (List.mem_cons_of_mem _ h), e6, e8⟩ rfl r2
          obtain ⟨j1, j2, j3, j4⟩ := i2
          by_cases h : nkD q.1 = some k
          · have hk : y.1 = k := Option.some.inj (e1.1.symm.trans h)
            refine ⟨v :: vs', ?_, ?_, e2, ?_, ?_⟩
            · rw [List.map_cons, List.map_cons]
              unfold putAt
              rw [if_pos hk]
              exact .cons ru i1
            · rw [List.map_cons, List.map_cons, List.map_cons, if_pos h, j1, e1.1]; rfl
            · rw [List.map_cons, List.map_cons, List.map_cons, if_pos h]
              exact .cons e5 j3
            · rw [List.map_cons, List.map_cons, if_pos h]
              exact .cons rd j4
          · have hk : ¬ y.1 = k := fun z => h (e1.1.trans (congrArg some z))
            refine ⟨v0 :: vs', ?_, ?_, e2, ?_, ?_⟩
            · rw [List.map_cons, List.map_cons]
              unfold putAt
              rw [if_neg hk]
              exact .cons r1 i1
            · rw [List.map_cons, List.map_cons, List.map_cons, if_neg h, j1, e1.1]; rfl
            · rw [List.map_cons, List.map_cons, List.map_cons, if_neg h]
              exact .cons e5 j3
            · rw [List.map_cons, List.map_cons, if_neg h]
              exact .cons e7 j4
theorem NR.more {K : PySem.W.Frag} {kvs : List (D × D)} {ks : List (NestedKey × Addr)} {vs : List V} {k : NestedKey} {b : Addr} {kd d : D} {v : V} (n : NR K G μ ks vs kvs) (e : nkD kd = some k) (h8 : k.depth ≤ 8) (rk : Rep K G μ (.ref b) kd) (rd : Rep K G μ v d) :
    NR K G μ (ks ++ [(k, b)]) (vs ++ [v]) (kvs ++ [(kd, d)]) := by
  obtain ⟨e1, e2, e3, e4⟩ := n
  refine ⟨by rw [List.map_append, List.map_append, e1]; simp [e], fun q hq => ?_, by rw [List.map_append, List.map_append]; exact e3.append (.cons rk .nil), by rw [List.map_append]; exact e4.append (.cons rd .nil)⟩
  rcases List.mem_append.mp hq with h | h
  · exact e2 q h
  · rw [List.mem_singleton.mp h]; exact h8
end
/-! ### the operations -/
def ndAt (n : Nat) : M (List (D × D)) := fun st => match st[n]? with
  | some (.nd kvs) => .ok kvs st
  | _ => .bad
def ngM (x y : D) : M D := (opt (refD x)).bind fun n => (opt (keyN y)).bind fun k => (ndAt n).bind fun kvs => opt (valN k kvs)
def ninM (neg : Bool) (y x : D) : M D := (opt (refD x)).bind fun n => (opt (keyN y)).bind fun k => (ndAt n).bind fun kvs => PL.bl (if neg then !(valN k kvs).isSome else (valN k kvs).isSome)
def npM (x y v : D) : M Unit := (opt (refD x)).bind fun n => (opt (keyN y)).bind fun k => (ndAt n).bind fun kvs => guardM (decide (kvs.length < sizeLine)) (setAt n (.nd (putN kvs y k v)))
section
variable {X : Cx} {E : XK} {H0 : Hp} {e a b c o i value : Expr} {f g h : En → M D} {pos p p0 : Pos} {Φ : Ent} {wW : World}
theorem Post.nd {α β : Type} {K : PySem.W.Frag} {mg : Str → Option Value} {R : RR β α} {H G : Hp} {μ : Mu} {n : Nat} {k : List (D × D) → M α} {st : Sto} {Q : β → Hp → Prop} (q : Post wW K mg E R H G μ ((ndAt n).bind k st) Q) : ∃ kvs, st[n]? = some (.nd kvs) ∧ Post wW K mg E R H G μ (k kvs st) Q := by
  unfold M.bind ndAt at q
  cases e : st[n]? with
  | none => rw [e] at q; exact q.elim
  | some o =>
    rw [e] at q
    cases o with
    | nd kvs => exact ⟨kvs, rfl, q⟩
    | dict _ => exact q.elim
    | lst _ => exact q.elim
    | ins _ _ => exact q.elim
    | tab _ _ => exact q.elim
theorem Rep.nd {K : PySem.W.Frag} {H G : Hp} {μ : Mu} {st : Sto} {v : V} {d : D} {n : Nat} {kvs : List (D × D)} (r : Rep K G μ v d) (hn : refD d = some n) (w : Wd wW K H G μ st) (hs : st[n]? = some (.nd kvs)) : ∃ l ks vs, v = .ref l ∧ μ n = some l ∧ H l = some (.ext (RawN wW l ks vs)) ∧ NR K G μ ks vs kvs := by
  cases r with
  | ref hm =>
    cases hn
    obtain ⟨l, h1, h2, ks, vs, h4, h5⟩ := w.obj n _ hs
    rw [hm] at h1; cases h1
    exact ⟨_, ks, vs, rfl, hm, h4, h5⟩
  | _ => cases hn
theorem keyN_tup {d : D} {k : NestedKey} (h : keyN d = some k) : (∃ ds, d = .tup ds) ∧ nkD d = some k ∧ k.depth ≤ 8 := by
  cases d with
  | tup ds =>
    unfold keyN at h
    obtain ⟨k', h1, h2⟩ := Option.bind_eq_some_iff.mp h
    by_cases h8 : k'.depth ≤ 8
    · rw [if_pos h8] at h2; cases h2
      exact ⟨⟨ds, rfl⟩, h1, h8⟩
    · rw [if_neg h8] at h2; cases h2
  | _ => cases h
theorem rep_key_ref {K : PySem.W.Frag} {G : Hp} {μ : Mu} {v : V} {d : D} {k : NestedKey} (r : Rep K G μ v d) (h : keyN d = some k) : ∃ b, v = .ref b := by
  obtain ⟨⟨ds, rfl⟩, _⟩ := keyN_tup h
  cases r with
  | tup _ _ => exact ⟨_, rfl⟩
theorem je_nget (hu : X.A.units + 65 < cLine) (ho : JE X E H0 f o) (hi : JE X E H0 g i) (hs : NoSl i := by intro _ _; rfl) : JE X E H0 (e2 ngM f g) (.Subscript o i pos) := by
  refine ⟨fun pins s σ H Q I ⟨G, μ, st, ρ, w, er, q⟩ => ?_⟩
  refine subD_of PySem.F.slot_dict_getitem.lookup hs (thn (ho.run pins s σ H (fun x H1 => ∃ G1 μ1 st1 dx, Wd X.w X.K H1 G1 μ1 st1 ∧ ER X.K H1 G1 μ1 H0 ρ σ ∧ Rep X.K G1 μ1 x dx ∧ Post X.w X.K X.mg E (rRep X.K) H1 G1 μ1 ((g ρ).bind (fun y => ngM dx y) st1) Q) I
    ⟨G, μ, st, ρ, w, er, Post.bind q fun dx st1 x H1 G1 μ1 w1 s1 r1 q1 => ⟨G1, μ1, st1, dx, w1, er.step s1, r1, q1⟩⟩) fun u s1 ⟨x, H1, I1, rx, G1, μ1, st1, dx, w1, e1, r1, q1⟩ =>
    thn (hi.run pins s1 σ H1 (fun y H2 => ∃ G2 μ2 st2 dy, Wd X.w X.K H2 G2 μ2 st2 ∧ Rep X.K G2 μ2 x dx ∧ Rep X.K G2 μ2 y dy ∧ Post X.w X.K X.mg E (rRep X.K) H2 G2 μ2 (ngM dx dy st2) Q) I1
    ⟨G1, μ1, st1, ρ, w1, e1, Post.bind q1 fun dy st2 y H2 G2 μ2 w2 s2 r2 q2 => ⟨G2, μ2, st2, dy, w2, r1.mono s2.g s2.m, r2, q2⟩⟩) fun iv s2 ⟨y, H2, I2, ry, G2, μ2, st2, dy, w2, rx', ry', q2⟩ => ?_)
  obtain ⟨n, hn, q2⟩ := Post.opt q2
  obtain ⟨k, hk, q2⟩ := Post.opt q2
  obtain ⟨kvs, hd, q2⟩ := Post.nd q2
  obtain ⟨l, ks, vs, rfl, _, h4, h5⟩ := rx'.nd hn w2 hd
  obtain ⟨b, rfl⟩ := rep_key_ref ry' hk
  obtain ⟨_, hk2, h8⟩ := keyN_tup hk
  obtain rfl : u = Value.ref l := rx
  obtain rfl : iv = Value.ref b := ry
  obtain ⟨xs, x1, x2, x3, x4, x5⟩ := raw_of I2 w2.imm h4 h5
  have hv := at_nr (k := k) h5 x1 x2
  cases e : valN k kvs with
  | none => rw [e] at q2; exact q2.elim
  | some d =>
    rw [e] at hv q2
    obtain ⟨p, v, h6, h7, h9⟩ := hv
    refine ⟨x5.typeIs, wpAny_getItem_heap (knd := nestedKind X.prog X.w) (show X.A.units + 1 + 8 < cLine by omega) ⟨rep_nk I2 w2.imm ry' hk2 rfl, h8⟩ x5 h6 ?_⟩
    exact ⟨v, H2, I2.tok _, h7, q2 _ _ _ _ w2 .refl h9⟩
theorem nin_run {pins : List (Addr × Obj)} {s : Shared} {σ : L2.St} {H G : Hp} {μ : Mu} {st : Sto} {x y : V} {dx dy : D} {u iv : Value} (neg : Bool) (hu : X.A.units + 65 < cLine) (I : Inv X pins σ H s) (w : Wd X.w X.K H G μ st) (rx : RelV x u) (ry : RelV y iv) (rx' : Rep X.K G μ x dx) (ry' : Rep X.K G μ y dy) {Q : VK}
    (q : Post X.w X.K X.mg E (rRep X.K) H G μ (ninM neg dy dx st) Q) : wpAny (model X.prog X.w) X.A (compareOp (if neg = true then .NotIn else .In) iv u) (EP X pins σ Q) X.xe s := by
  obtain ⟨n, hn, q⟩ := Post.opt q
  obtain ⟨k, hk, q⟩ := Post.opt q
  obtain ⟨kvs, hd, q⟩ := Post.nd q
  obtain ⟨l, ks, vs, rfl, _, h4, h5⟩ := rx'.nd hn w hd
  obtain ⟨b, rfl⟩ := rep_key_ref ry' hk
  obtain ⟨_, hk2, h8⟩ := keyN_tup hk
  obtain rfl : u = Value.ref l := rx
  obtain rfl : iv = Value.ref b := ry
  obtain ⟨xs, x1, x2, x3, x4, x5⟩ := raw_of I w.imm h4 h5
  have hv := at_nr (k := k) h5 x1 x2
  have e : (atKey xs k).isSome = (valN k kvs).isSome := by
    cases e : valN k kvs with
    | none => rw [e] at hv; rw [show atKey xs k = none from hv]; rfl
    | some d => rw [e] at hv; obtain ⟨p, v, h6, _⟩ := hv; rw [h6]; rfl
  have key : (nestedKind X.prog X.w).is s.heap k b := ⟨rep_nk I w.imm ry' hk2 rfl, h8⟩
  have room : (nestedKind X.prog X.w).room X.A.in1 := show X.A.units + 1 + 8 < cLine by omega
  cases neg with
  | false =>
    refine wpAny_in_heap (knd := nestedKind X.prog X.w) room key x3 x5 ?_
    rw [e]
    exact ⟨.bl _, H, I.tok _, rfl, q.bl w⟩
  | true =>
    refine PyProof.Rows.wpAny_notIn_heap (knd := nestedKind X.prog X.w) room key x3 x5 ?_
    rw [e]
    exact ⟨.bl _, H, I.tok _, rfl, q.bl w⟩
theorem pc_nin (neg : Bool) {op : CmpOp} (hop : op = if neg = true then .NotIn else .In) (hu : X.A.units + 65 < cLine) (hi : JE X E H0 f i) (ho : JE X E H0 g o) : PC X op i o (Se X E H0 (rRep X.K) (e2 (ninM neg) f g)) := by
  subst hop
  refine ⟨fun pins s σ H Q I ⟨G, μ, st, ρ, w, er, q⟩ => ?_⟩
  refine thn (hi.run pins s σ H (fun y H1 => ∃ G1 μ1 st1 dy, Wd X.w X.K H1 G1 μ1 st1 ∧ ER X.K H1 G1 μ1 H0 ρ σ ∧ Rep X.K G1 μ1 y dy ∧ Post X.w X.K X.mg E (rRep X.K) H1 G1 μ1 ((g ρ).bind (fun x => ninM neg dy x) st1) Q) I
    ⟨G, μ, st, ρ, w, er, Post.bind q fun dy st1 y H1 G1 μ1 w1 s1 r1 q1 => ⟨G1, μ1, st1, dy, w1, er.step s1, r1, q1⟩⟩) fun iv s1 ⟨y, H1, I1, ry, G1, μ1, st1, dy, w1, e1, r1, q1⟩ =>
    thn (ho.run pins s1 σ H1 (fun x H2 => ∃ G2 μ2 st2 dx, Wd X.w X.K H2 G2 μ2 st2 ∧ Rep X.K G2 μ2 y dy ∧ Rep X.K G2 μ2 x dx ∧ Post X.w X.K X.mg E (rRep X.K) H2 G2 μ2 (ninM neg dy dx st2) Q) I1
    ⟨G1, μ1, st1, ρ, w1, e1, Post.bind q1 fun dx st2 x H2 G2 μ2 w2 s2 r2 q2 => ⟨G2, μ2, st2, dx, w2, r1.mono s2.g s2.m, r2, q2⟩⟩) fun u s2 ⟨x, H2, I2, rx, G2, μ2, st2, dx, w2, ry', rx', q2⟩ => ?_
  exact nin_run neg hu I2 w2 rx ry rx' ry' q2
theorem je_nin (hu : X.A.units + 65 < cLine) (ha : JE X E H0 f i) (hb : JE X E H0 g o) (hm : behindInMarks .In o = false := by rfl) : JE X E H0 (e2 (ninM false) f g) (.Compare i [.In] [o] pos) := pe_cmp (pc_nin false rfl hu ha hb) hm
theorem je_nnotIn (hu : X.A.units + 65 < cLine) (ha : JE X E H0 f i) (hb : JE X E H0 g o) (hm : behindInMarks .NotIn o = false := by rfl) : JE X E H0 (e2 (ninM true) f g) (.Compare i [.NotIn] [o] pos) := pe_cmp (pc_nin true rfl hu ha hb) hm
theorem jt_nin (hu : X.A.units + 65 < cLine) (ha : JE X E H0 f i) (hb : JE X E H0 g o) (hm : behindInMarks .In o = false := by rfl) : JT X E H0 (tBl (e2 (ninM false) f g)) (.Compare i [.In] [o] pos) := PT.imp (pt_cmp (pc_nin false rfl hu ha hb) hm) fun σ H Q h => se_test σ H Q h
theorem jt_nnotIn (hu : X.A.units + 65 < cLine) (ha : JE X E H0 f i) (hb : JE X E H0 g o) (hm : behindInMarks .NotIn o = false := by rfl) : JT X E H0 (tBl (e2 (ninM true) f g)) (.Compare i [.NotIn] [o] pos) := PT.imp (pt_cmp (pc_nin true rfl hu ha hb) hm) fun σ H Q h => se_test σ H Q h
def sNPut (fo fi fv : En → M D) : En → M (Fl × En) := fun ρ => (fv ρ).bind fun v => (fo ρ).bind fun x => (fi ρ).bind fun y => (npM x y v).bind fun _ => M.pure (.nx, ρ)
theorem js_nput {pos' : Pos} (hu : X.A.units + 65 < cLine) (ho : JE X E Φ.H f o) (hi : JE X E Φ.H g i) (hv : JE X E Φ.H h value) (hs : swapsWith value (some (.Subscript o i pos')) pos.line X.env = pure false := by rfl) :
    JS X E Φ (sNPut f g h) (.Assign [.Subscript o i pos'] value pos) := by
  refine ⟨fun pins s σ H Dn I ⟨G, μ, st, ρ, w, er, s0, q⟩ => ?_⟩
  refine wpAny_Assign_Subscript (thn (hv.run pins s σ H (fun v H1 => ∃ G1 μ1 st1 dv, Wd X.w X.K H1 G1 μ1 st1 ∧ ER X.K H1 G1 μ1 Φ.H ρ σ ∧ Stp Φ.H Φ.G Φ.μ H1 G1 μ1 ∧ Rep X.K G1 μ1 v dv ∧ PostS X E Φ Dn (((f ρ).bind fun x => (g ρ).bind fun y => (npM x y dv).bind fun _ => M.pure (.nx, ρ)) st1)) I
      ⟨G, μ, st, ρ, w, er, q.bind s0 fun dv st1 v H1 G1 μ1 w1 s1 t1 r1 q1 => ⟨G1, μ1, st1, dv, w1, er.step s1, t1, r1, q1⟩⟩) fun r s1 ⟨v, H1, I1, rv, G1, μ1, st1, dv, w1, e1, t1, r1, q1⟩ =>
    thn (ho.run pins s1 σ H1 (fun x H2 => ∃ G2 μ2 st2 dx, Wd X.w X.K H2 G2 μ2 st2 ∧ ER X.K H2 G2 μ2 Φ.H ρ σ ∧ Stp Φ.H Φ.G Φ.μ H2 G2 μ2 ∧ Rep X.K G2 μ2 v dv ∧ Rep X.K G2 μ2 x dx ∧ PostS X E Φ Dn (((g ρ).bind fun y => (npM dx y dv).bind fun _ => M.pure (.nx, ρ)) st2)) I1
      ⟨G1, μ1, st1, ρ, w1, e1, q1.bind t1 fun dx st2 x H2 G2 μ2 w2 s2 t2 r2 q2 => ⟨G2, μ2, st2, dx, w2, e1.step s2, t2, r1.mono s2.g s2.m, r2, q2⟩⟩) fun u s2 ⟨x, H2, I2, rx, G2, μ2, st2, dx, w2, e2, t2, r1', r2, q2⟩ =>
    thn (hi.run pins s2 σ H2 (fun y H3 => ∃ G3 μ3 st3 dy, Wd X.w X.K H3 G3 μ3 st3 ∧ ER X.K H3 G3 μ3 Φ.H ρ σ ∧ Stp Φ.H Φ.G Φ.μ H3 G3 μ3 ∧ Rep X.K G3 μ3 v dv ∧ Rep X.K G3 μ3 x dx ∧ Rep X.K G3 μ3 y dy ∧ PostS X E Φ Dn (((npM dx dy dv).bind fun _ => M.pure (.nx, ρ)) st3)) I2
      ⟨G2, μ2, st2, ρ, w2, e2, q2.bind t2 fun dy st3 y H3 G3 μ3 w3 s3 t3 r3 q3 => ⟨G3, μ3, st3, dy, w3, e2.step s3, t3, r1'.mono s3.g s3.m, r2.mono s3.g s3.m, r3, q3⟩⟩) fun iv s3 ⟨y, H3, I3, ry, G3, μ3, st3, dy, w3, e3, t3, v3, x3, y3, q3⟩ => ?_) hs
  unfold npM at q3
  rw [M.bind_assoc] at q3
  obtain ⟨n, hn, q3⟩ := PostS.opt q3
  rw [M.bind_assoc] at q3
  obtain ⟨k, hk, q3⟩ := PostS.opt q3
  rw [M.bind_assoc] at q3
  unfold M.bind ndAt at q3
  cases e : st3[n]? with
  | none => rw [e] at q3; exact q3.elim
  | some ob =>
    rw [e] at q3
    cases ob with
    | dict _ => exact q3.elim
    | lst _ => exact q3.elim
    | ins _ _ => exact q3.elim
    | tab _ _ => exact q3.elim
    | nd kvs =>
      obtain ⟨l, ks, vs, rfl, hm, h4, h5⟩ := x3.nd hn w3 e
      obtain ⟨b, rfl⟩ := rep_key_ref y3 hk
      obtain ⟨_, hk2, h8⟩ := keyN_tup hk
      obtain rfl : u = Value.ref l := rx
      obtain rfl : iv = Value.ref b := ry
      by_cases hz : kvs.length < sizeLine
      · have q4 : PostS X E Φ Dn (.ok (.nx, ρ) (st3.set n (.nd (putN kvs dy k dv)))) := by
          have := q3
          simp only [guardM, hz, decide_true, if_true, setAt, M.pure] at this
          exact this
        obtain ⟨xs, x1, x2, x3', x4, x5⟩ := raw_of I3 w3.imm h4 h5
        have len : kvs.length = xs.length := by
          have z1 := congrArg List.length h5.nk
          rw [← x1] at z1
          simpa using z1
        have hv := at_nr (k := k) h5 x1 x2
        refine wpAny_setItem_heap (knd := nestedKind X.prog X.w) (show X.A.units + 1 + 8 < cLine by omega) ⟨rep_nk I3 w3.imm y3 hk2 rfl, h8⟩ x5 (fun h' dd hs' => ?_) x4
        -- the new pairs
        have new : ∃ ks' vs' : _, ((storedH xs k b r).map (fun x => (x.1, x.2.1)) = ks') ∧ Vals vs' ((storedH xs k b r).map (·.2.2)) ∧ NR X.K G3 μ3 ks' vs' (putN kvs dy k dv) := by
          unfold putN
          cases hval : valN k kvs with
          | none =>
            rw [hval] at hv
            rw [storedH_new hv, if_neg (by simp)]
            refine ⟨_, vs ++ [v], rfl, ?_, ?_⟩
            · rw [List.map_append]; exact x2.append (.cons rv .nil)
            · rw [List.map_append, x1]
              exact h5.more hk2 h8 y3 v3
          | some d0 =>
            rw [hval] at hv
            obtain ⟨p, v0, a1, _, _⟩ := hv
            rw [storedH_old a1, if_pos (by simp)]
            obtain ⟨vs', b1, b2⟩ := put_nr (k := k) rv v3 h5 x1 x2
            refine ⟨ks, vs', ?_, b1, b2⟩
            rw [List.map_map, ← x1]
            refine List.map_congr_left fun z _ => ?_
            show ((putAt k r z).1, (putAt k r z).2.1) = _
            unfold putAt
            split <;> rfl
        obtain ⟨ks', vs', n1, n2, n3⟩ := new
        have len' : (storedH xs k b r).length ≤ sizeLine := by
          unfold storedH
          split
          · rw [List.length_map]; exact x4
          · rw [List.length_append, List.length_singleton]; omega
        have okD : ObjOk X.prog X.w (upd H3 l (.ext (RawN X.w l ks' vs'))) h' l (.ext (RawN X.w l ks' vs')) := by
          obtain ⟨ob, es, ep, c1, c2, c3, c4, _, c6⟩ := dd
          refine ⟨⟨_, n1, n2, x3', len', ob, es, ep, c1, c2, c3, c4, c6⟩, ⟨ob, c1⟩, fun h1 h2 p kp => ?_⟩
          obtain ⟨ys, y1, y2, y3, y4, o', es', ep', y5, y6⟩ := p
          exact ⟨ys, y1, y2, y3, y4, o', es', ep', kp _ y5, y6⟩
        obtain ⟨w4, s4⟩ := w3.write (x := .nd (putN kvs dy k dv)) (o := .ext (RawN X.w l ks' vs')) e hm ⟨ks', vs', upd_same, n3⟩
        have ex : ∃ q, h'.get? l = some q := let ⟨ob, _, _, c1, _⟩ := dd; ⟨ob, c1⟩
        exact ⟨σ, _, d_write I3 (by rw [h4]; exact True.intro) hs' ex okD, q4 _ _ _ _ w4 (e3.step s4) (t3.trans s4)⟩
      · have : False := by
          have := q3
          simp only [guardM, hz, decide_false] at this
          exact this
        exact this.elim
/-- {} -/
def eNewN : En → M D := fun _ => newOb (.nd [])
theorem je_newN : JE X E H0 eNewN (.Dict [] [] pos) := by
  refine ⟨fun pins s σ H Q I ⟨G, μ, st, ρ, w, er, q⟩ => ?_⟩
  refine wpAny_Dict_empty ?_
  have hp : H s.heap.objs.size = none := I.hok.fresh (Nat.le_refl _)
  have hb : (s.heap.objs.size == sysModules) = false := beq_eq_false_iff_ne.mpr (Ne.symm (Nat.ne_of_lt I.big))
  refine ⟨.ref s.heap.objs.size, _, I.laid (a := s.heap.objs.size) (o := .ext (RawN X.w s.heap.objs.size [] [])) (t' := s.toks) (fun _ _ q => Heap.get?_push_of_some _ q) (Nat.le_refl _) ?_, rfl, ?_⟩
  · refine ⟨⟨[], rfl, .nil, hb, Nat.zero_le _, _, #[], 0, Heap.get?_push_size _ rfl, ⟨rfl, rfl, rfl⟩, rfl, rfl, List.nodup_nil⟩, ⟨_, Heap.get?_push_size _ rfl⟩, fun h1 h2 p kp => ?_⟩
    obtain ⟨ys, y1, y2, y3, y4, o', es', ep', y5, y6⟩ := p
    exact ⟨ys, y1, y2, y3, y4, o', es', ep', kp _ y5, y6⟩
  · obtain ⟨w2, s2⟩ := w.add (x := .nd []) (o := .ext (RawN X.w s.heap.objs.size [] [])) hp ⟨[], [], upd_same, rfl, (fun _ h => by cases h), .nil, .nil⟩
    exact q _ _ _ _ w2 s2 (.ref (by unfold muAdd; rw [if_pos rfl]))
/-! ### sum of ints, upper -/
def sumM (d : D) : M D := match d with
  | .lst ds => (opt (intsD ds)).bind fun ns => M.pure (.int ns.sum)
  | _ => M.bad
theorem c_sum : C1J X E (rSum X.K) sumM := fun H G μ st x dx Q w rx h => by
  cases dx with
  | lst ds =>
    obtain ⟨ns, hn, h⟩ := Post.opt h
    obtain ⟨p, vs, rfl, hq, r⟩ := rx.lst w.imm
    have e := ints_rep r hn
    subst e
    exact ⟨p, ns, rfl, .inl (.inl hq), h _ _ _ _ w .refl (.int _)⟩
  | _ => exact h.elim
def upperM (d : D) : M D := match d with
  | .str x => guardM (decide (x.length ≤ 5592405)) (M.pure (.str (Txt.upper x)))
  | _ => M.bad
theorem je_upper {apos : Pos} (ho : JB X E H0 f o) (hbase : attributeBase o "upper" X.env (eval o X.env) = eval o X.env := by rfl) (hline : (apos.endLine == pos.line) = true := by rfl) : JE X E H0 (e1 upperM f) (.Call (.Attribute o "upper" apos) [] [] pos) := by
  refine PE.imp (pe_upper ho hbase hline) fun σ H Q ⟨G, μ, st, ρ, w, er, q⟩ => ⟨G, μ, st, ρ, w, er, Post.bind q fun d st1 x H1 G1 μ1 w1 s1 r1 q1 => ?_⟩
  cases d with
  | str y =>
    have q1' : Post X.w X.K X.mg E (rRep X.K) H1 G1 μ1 (guardM (decide (y.length ≤ 5592405)) (M.pure (.str (Txt.upper y))) st1) Q := q1
    obtain ⟨c, q1⟩ := Post.guard q1'
    cases r1.weak.str
    exact ⟨⟨_, rfl⟩, _, rfl, rfl, of_decide_eq_true c, q1 _ _ _ _ w1 .refl (.str _)⟩
  | _ => exact q1.elim
end
end PL

set_option linter.all false
set_option maxRecDepth 100000
set_option maxHeartbeats 4000000
/-! PL29: dict comprehensions with one clause, keys texts or ints. -/
namespace PL
open PySem PySem.Spec L2
def dcL (set : D → En → Option En) (tt : En → M Bool) (tk tv : En → M D) (ρ : En) : List D → List (Key × D) → M (List (Key × D))
  | [], acc => M.pure acc
  | d :: ds, acc => (opt (set d ρ)).bind fun ρ' => (tt ρ').bind fun b => if b = true then (tk ρ').bind fun y => (tv ρ').bind fun z => (opt (keyD y)).bind fun k => guardM (decide (acc.length < sizeLine)) (dcL set tt tk tv ρ ds (putD acc k z)) else dcL set tt tk tv ρ ds acc
def eDc (it : En → M (List D)) (p : Pt) (vs : List Nat) (tt : En → M Bool) (tk tv : En → M D) : En → M D := fun ρ => (it ρ).bind fun ds => (noX (dcL p.set tt tk tv (wipeE ρ vs) ds [])).bind fun kvs => newOb (.dict kvs)
theorem noX_guard {α : Type} (c : Bool) (m : M α) : noX (guardM c m) = guardM c (noX m) := by
  unfold guardM
  split
  · rfl
  · rfl
theorem upd_self {H : Hp} {a : Addr} {o : HO} (h : H a = some o) : upd H a o = H := by
  funext b
  by_cases e : b = a
  · subst e; rw [upd_same, h]
  · rw [upd_ne e]
section
variable {X : Cx} {E : XK} {H0 : Hp} {it : En → M (List D)} {pt : Pt} {vs : List Nat} {tt : En → M Bool} {tk tv : En → M D}
theorem dc_read (hv : ∀ i ∈ pt.slots, i ∈ vs) : ∀ (σ : L2.St) (H : Hp) (Q : VK), Se X E H0 (rRep X.K) (eDc it pt vs tt tk tv) σ H Q →
    tDc (Se X E H0 (rIt X.w X.K) it) (pt.g X.K) (Se X xNo H0 rTrue tt) (Se X xNo H0 (rRep X.K) tk) (Se X xNo H0 (rRep X.K) tv) vs σ H Q := by
  intro σ H Q ⟨G, μ, st, ρ, w, er, q⟩
  refine ⟨G, μ, st, ρ, w, er, Post.raw q fun ds st1 J H1 G1 μ1 w1 s1 r1 q0 => ?_⟩
  intro L hL
  obtain ⟨hz, hJ⟩ := r1
  have q1 := q0.step s1
  have er1 : ER X.K H1 G1 μ1 H0 (wipeE ρ vs) (L2.wipe σ vs) := (er.step s1).wipe vs
  have g1L : G1 L = none := none_before w1.imm.th hL
  obtain ⟨wL, sL⟩ := w1.lay (o := .dK []) hL
  have nL : ∀ n, μ1 n ≠ some L := fun k e => by
    obtain ⟨b, h1, _, h3⟩ := w1.obj k _ (List.getElem?_eq_getElem (w1.dom k L e))
    rw [e] at h1; cases h1
    obtain ⟨u, hu⟩ := h3.there
    rw [hL] at hu; cases hu
  let In : Nat → Hp → Prop := fun i H => ∃ G μ st acc accD, Wd X.w X.K H G μ st ∧ Stp H1 G1 μ1 H G μ ∧ H L = some (.dK acc) ∧ KR X.K G μ acc accD ∧ G L = none ∧ (∀ n, μ n ≠ some L) ∧
    Post X.w X.K X.mg E (rRep X.K) H1 G1 μ1 (((noX (dcL pt.set tt tk tv (wipeE ρ vs) (ds.drop i) accD)).bind fun kvs => newOb (.dict kvs)) st) Q
  refine ⟨fun i m H => m = ds.length - i ∧ i ≤ ds.length ∧ In i H, ⟨ds.length, by simp, Nat.zero_le _, G1, μ1, st1, [], [], wL, sL, upd_same, .nil, g1L, nL, q1⟩, ?_⟩
  rintro i m H ⟨rfl, hi, G, μ, st, acc, accD, w, s, hH, ra, gL, nL, q⟩
  obtain ⟨hgo, hstop⟩ := hJ H G μ st w s.g s.m
  by_cases hlt : i < ds.length
  · obtain ⟨go, hy⟩ := hgo i hlt
    refine .inr ⟨go, In (i + 1), fun H' h => ⟨_, by omega, rfl, hlt, h⟩, fun x H2 hx => ?_⟩
    obtain ⟨G2, w2, s2, d, hd, rd⟩ := hy x H2 hx
    rw [List.drop_eq_getElem_cons hlt] at q
    have ed : ds[i] = d := Option.some.inj ((List.getElem?_eq_getElem hlt).symm.trans hd)
    rw [ed] at q
    unfold dcL at q
    rw [noX_bind, noX_opt, M.bind_assoc] at q
    obtain ⟨ρ2, hset, q⟩ := Post.opt q
    have t2 := s.trans s2
    refine Pt.ok hset w2 rd (er1.step t2) fun σ2 er2 hw => ⟨(hw vs hv).trans (wipe_idem vs σ), ?_⟩
    rw [noX_bind, M.bind_assoc] at q
    refine ⟨G2, μ, st, ρ2, w2, er2, Post.nbind q fun b st3 b' H3 G3 μ3 w3 s3 r3 q3 => ?_⟩
    cases r3
    have keep : ∀ {H' G' : Hp} {μ' : Mu}, Stp H G μ H' G' μ' → H' L = some (.dK acc) ∧ KR X.K G' μ' acc accD ∧ G' L = none ∧ ∀ n, μ' n ≠ some L := fun {H' G' μ'} z => by
      refine ⟨z.fr L _ hH nL, ra.mono z.g z.m, ?_, fun n e => ?_⟩
      · cases e : G' L with
        | none => rfl
        | some o => have := z.ng L gL (by rw [e]; simp); rw [hH] at this; cases this
      · cases e' : μ n with
        | some b => have := z.m n b e'; rw [e] at this; cases this; exact nL n e'
        | none => have := z.nm n L e' e; rw [hH] at this; cases this
    cases b with
    | false =>
      obtain ⟨k1, k2, k3, k4⟩ := keep (s2.trans s3)
      exact ⟨G3, μ3, st3, acc, accD, w3, t2.trans s3, k1, k2, k3, k4, q3⟩
    | true =>
      have q3' : Post X.w X.K X.mg E (rRep X.K) H1 G1 μ1 (((noX ((tk ρ2).bind fun y => (tv ρ2).bind fun z => (opt (keyD y)).bind fun k => guardM (decide (accD.length < sizeLine)) (dcL pt.set tt tk tv (wipeE ρ vs) (ds.drop (i + 1)) (putD accD k z)))).bind fun kvs => newOb (.dict kvs)) st3) Q := q3
      rw [noX_bind, M.bind_assoc] at q3'
      refine ⟨G3, μ3, st3, ρ2, w3, er2.step s3, Post.nbind q3' fun dy st4 y H4 G4 μ4 w4 s4 r4 q4 => ?_⟩
      rw [noX_bind, M.bind_assoc] at q4
      refine ⟨G4, μ4, st4, ρ2, w4, (er2.step s3).step s4, Post.nbind q4 fun dz st5 z H5 G5 μ5 w5 s5 r5 q5 => ?_⟩
      rw [noX_bind, noX_opt, M.bind_assoc] at q5
      obtain ⟨k, hk, q5⟩ := Post.opt q5
      rw [noX_guard] at q5
      have q5' : decide (accD.length < sizeLine) = true ∧ Post X.w X.K X.mg E (rRep X.K) H1 G1 μ1 (((noX (dcL pt.set tt tk tv (wipeE ρ vs) (ds.drop (i + 1)) (putD accD k dz))).bind fun kvs => newOb (.dict kvs)) st5) Q := by
        unfold guardM at q5
        by_cases hc : decide (accD.length < sizeLine) = true
        · rw [if_pos hc] at q5; exact ⟨hc, q5⟩
        · rw [if_neg hc] at q5; exact q5.elim
      obtain ⟨hc, q6⟩ := q5'
      obtain ⟨k1, k2, k3, k4⟩ := keep (((s2.trans s3).trans s4).trans s5)
      have ey := rep_key (r4.mono s5.g s5.m) hk
      refine ⟨acc, k, ey, k1, by rw [k2.len]; exact of_decide_eq_true hc, G5, μ5, st5, putK acc k z, putD accD k dz, w5.over k3 k4, (((t2.trans s3).trans s4).trans s5).over hL, upd_same, k2.put r5, k3, k4, q6⟩
  · have e : i = ds.length := by omega
    subst e
    rw [List.drop_length] at q
    refine .inl ⟨hstop _ (Nat.le_refl _), ?_⟩
    have q' : Post X.w X.K X.mg E (rRep X.K) H1 G1 μ1 (newOb (.dict accD) st) Q := q
    have sub : SubM μ (muAdd μ st.length L) := fun n a h => by
      have := w.dom n a h
      unfold muAdd; rw [if_neg (by omega)]; exact h
    have eL := upd_self hH
    have w4 := w.adopt (p := L) (o := .dK acc) (x := .dict accD) gL nL ((ra.mono (fun _ _ h => h) sub).or upd_same)
    have s4 := s.adopt w (p := L) (o := .dK acc) hL
    rw [eL] at w4 s4
    exact q' (.ref L) H G _ w4 s4 (.ref (by unfold muAdd; rw [if_pos rfl]))
variable {kx vx tg iter : Expr} {ifs : List Expr} {scope : Scope} {own : List (Str × Nat)} {pos : Pos}
theorem je_dc (hc : X.calm = true) (hN : X.N.Nodup) (hi : JI X E H0 tg it iter) (ok : BlkOk X.N X.env.scope scope own) (hv : ∀ i ∈ pt.slots, i ∈ own.map (·.2))
    (hg : ∀ (s : Shared) (H : Hp) (C : Addr) (cl : List (Str × Addr)) (fp : List Addr), PG (X.blk s H scope (compEnvC scope cl C X.env) fp) tg (pt.g X.K))
    (ht : ∀ (s : Shared) (H : Hp) (C : Addr) (cl : List (Str × Addr)) (fp : List Addr), JTs (X.blk s H scope (compEnvC scope cl C X.env) fp) xNo H0 tt ifs)
    (hk : ∀ (s : Shared) (H : Hp) (C : Addr) (cl : List (Str × Addr)) (fp : List Addr), JE (X.blk s H scope (compEnvC scope cl C X.env) fp) xNo H0 tk kx)
    (he : ∀ (s : Shared) (H : Hp) (C : Addr) (cl : List (Str × Addr)) (fp : List Addr), JE (X.blk s H scope (compEnvC scope cl C X.env) fp) xNo H0 tv vx) (hs : ∀ x, foldedSetIterable iter X.env x = pure x := by intro _; rfl) :
    JE X E H0 (eDc it pt (own.map (·.2)) tt tk tv) (.DictComp kx vx [⟨tg, iter, ifs, 0⟩] scope pos) := PE.imp (pe_dc (tt := Se X xNo H0 rTrue tt) (tk := Se X xNo H0 (rRep X.K) tk) (tv := Se X xNo H0 (rRep X.K) tv) hc hN hi ok hg ht hk he hs) (dc_read hv)
end
end PL

set_option linter.all false
set_option maxRecDepth 100000
set_option maxHeartbeats 4000000
/-! PL30: bools among ints: b + i, b - i, -b, str(b). -/
namespace PL
open PySem PySem.Spec L2
def b01 (b : Bool) : Int := if b = true then 1 else 0
def addBM (x y : D) : M D := match x, y with
  | .bl b, .int j => M.pure (.int (b01 b + j))
  | x, y => addM x y
def subBM (x y : D) : M D := match x, y with
  | .bl b, .int j => M.pure (.int (b01 b - j))
  | x, y => subM x y
def strBM (x : D) : M D := match x with
  | .bl b => M.pure (.str (if b = true then "True" else "False"))
  | x => strM x
def eNegB (f : En → M D) : En → M D := fun ρ => (f ρ).bind fun d => match d with
  | .int i => M.pure (.int (-i))
  | .bl b => M.pure (.int (-(b01 b)))
  | _ => M.bad
section
variable {X : Cx} {E : XK} {H0 : Hp} {a : Expr} {f : En → M D} {pos : Pos}
def rBI (g : Int → Int → Int) : R2 := fun x y H Q => ∃ b j, x = .bl b ∧ y = .int j ∧ Q (.int (g (b01 b) j)) H
theorem op_add_bi : OpR X (binaryOp .Add) (rBI (· + ·)) := by
  intro pins s σ H x y v u Q I rx ry h
  obtain ⟨b, j, rfl, rfl, q⟩ := h
  obtain ⟨t, rfl⟩ := ry
  cases rx
  exact PySem.IntBool.add_bool_int ⟨.int (b01 b + j), H, I.tok _, ⟨_, rfl⟩, q⟩
theorem op_sub_bi : OpR X (binaryOp .Sub) (rBI (· - ·)) := by
  intro pins s σ H x y v u Q I rx ry h
  obtain ⟨b, j, rfl, rfl, q⟩ := h
  obtain ⟨t, rfl⟩ := ry
  cases rx
  exact PySem.IntBool.sub_bool_int ⟨.int (b01 b - j), H, I.tok _, ⟨_, rfl⟩, q⟩
theorem op_addB : OpR X (binaryOp .Add) (fun x y H Q => rBI (· + ·) x y H Q ∨ rAddA X.K x y H Q) := op_add_bi.or op_addA
theorem op_subB : OpR X (binaryOp .Sub) (fun x y H Q => rBI (· - ·) x y H Q ∨ rI0 (fun i j => .int (i - j)) x y H Q) := op_sub_bi.or op_sub
theorem o_addB : OpJ X E (fun x y H Q => rBI (· + ·) x y H Q ∨ rAddA X.K x y H Q) addBM := fun H G μ st x y dx dy Q w rx ry h => by
  cases dx with
  | bl b =>
    cases dy with
    | int j =>
      refine .inl ⟨b, j, ?_, ry.int, h _ _ _ _ w .refl (.int _)⟩
      rcases rx with rx | ⟨_, _, _, _, e, _⟩
      · cases rx; rfl
      · cases e
    | _ => exact .inr (o_add H G μ st x y _ _ Q w rx ry h)
  | _ => exact .inr (o_add H G μ st x y _ _ Q w rx ry h)
theorem o_subB : OpJ X E (fun x y H Q => rBI (· - ·) x y H Q ∨ rI0 (fun i j => .int (i - j)) x y H Q) subBM := fun H G μ st x y dx dy Q w rx ry h => by
  cases dx with
  | bl b =>
    cases dy with
    | int j =>
      refine .inl ⟨b, j, ?_, ry.int, h _ _ _ _ w .refl (.int _)⟩
      rcases rx with rx | ⟨_, _, _, _, e, _⟩
      · cases rx; rfl
      · cases e
    | _ => exact .inr (o_sub H G μ st x y _ _ Q w rx ry h)
  | _ => exact .inr (o_sub H G μ st x y _ _ Q w rx ry h)
theorem call_str_bool : CallR X (.type "str") (fun xs H Q => ∃ b : Bool, xs = [.bl b] ∧ Q (.str (if b = true then "True" else "False")) H) := by
  intro pins s σ H xs us Q I r h
  obtain ⟨b, rfl, q⟩ := h
  obtain ⟨u, rfl, rfl⟩ := vals1 r
  refine PySem.P.str_of_bool ⟨.str (if b = true then "True" else "False"), H, I.tok _, ?_, q⟩
  cases b <;> exact ⟨_, rfl⟩
theorem call_strB : CallR X (.type "str") (fun xs H Q => (∃ b : Bool, xs = [.bl b] ∧ Q (.str (if b = true then "True" else "False")) H) ∨ ∃ i, xs = [.int i] ∧ i.natAbs.log2 < 1920 ∧ Q (.str (toString i)) H) := call_str_bool.or call_str_int
theorem c_strB : C1J X E (fun xs H Q => (∃ b : Bool, xs = [.bl b] ∧ Q (.str (if b = true then "True" else "False")) H) ∨ ∃ i, xs = [.int i] ∧ i.natAbs.log2 < 1920 ∧ Q (.str (toString i)) H) strBM := fun H G μ st x dx Q w rx h => by
  cases dx with
  | bl b =>
    refine .inl ⟨b, ?_, h _ _ _ _ w .refl (.str _)⟩
    rcases rx with rx | ⟨_, _, _, _, e, _⟩
    · cases rx; rfl
    · cases e
  | _ => exact .inr (c_str H G μ st x _ Q w rx h)
theorem un_negB : UnR X (unaryOp .USub) (fun x H Q => (∃ b, x = .bl b ∧ Q (.int (-(b01 b))) H) ∨ rU (fun i => .int (-i)) x H Q) := by
  intro pins s σ H x v Q I rx h
  rcases h with ⟨b, rfl, q⟩ | h
  · cases rx
    refine unaryOp_gives (op := .USub) (typeIs_bool s b) rfl F.slot_bool_neg F.entry_int_neg (F.args_int_neg_1 _) (?_ : Gives (Builtin.«int.__neg__» ⟨[.bool b], []⟩) (.int (-(b01 b)))) ⟨.int (-(b01 b)), H, I.tok _, ⟨_, rfl⟩, q⟩
    exact .of_wp fun M A E s Q h => by obtain ⟨hp, g, d, tk, os⟩ := s; wp_walk; exact ⟨_, rfl, h⟩
  · exact un_neg pins s σ H x v Q I rx h
theorem je_negB (ha : JE X E H0 f a) : JE X E H0 (eNegB f) (.UnaryOp .USub a pos) := PE.imp (pe_un un_negB ha) fun σ H Q ⟨G, μ, st, ρ, w, er, q⟩ =>
  ⟨G, μ, st, ρ, w, er, Post.bind q fun d st1 x H1 G1 μ1 w1 s1 r1 q1 => by
    cases r1 with
    | int i => exact .inr ⟨i, rfl, q1 _ _ _ _ w1 .refl (.int _)⟩
    | bl b => exact .inl ⟨b, rfl, q1 _ _ _ _ w1 .refl (.int _)⟩
    | _ => exact q1.elim⟩
end
end PL

set_option linter.all false
set_option maxRecDepth 100000
set_option maxHeartbeats 4000000
/-! PL31: a sum of lists that nobody else holds; a list that a def made in the store is taken out of it. -/
namespace PL
open PySem PySem.Spec L2
mutual
/-- no place of the store is told -/
def noR : D → Bool
  | .tup ds => noRL ds
  | .lst ds => noRL ds
  | .frz ds => noRL ds
  | .ref _ => false
  | _ => true
def noRL : List D → Bool
  | [] => true
  | d :: ds => noR d && noRL ds
end
mutual
theorem Rep.nomu {K : PySem.W.Frag} {G : Hp} {μ μ' : Mu} : ∀ {v : V} {d : D}, Rep K G μ v d → noR d = true → Rep K G μ' v d
  | _, _, .non, _ => .non
  | _, _, .bl b, _ => .bl b
  | _, _, .int i, _ => .int i
  | _, _, .str x, _ => .str x
  | _, _, .tup h r, e => .tup h (RepL.nomu r (by unfold noR at e; exact e))
  | _, _, .lst h r, e => .lst h (RepL.nomu r (by unfold noR at e; exact e))
  | _, _, .frz h r, e => .frz h (RepL.nomu r (by unfold noR at e; exact e))
  | _, _, .ref h, e => by unfold noR at e; cases e
theorem RepL.nomu {K : PySem.W.Frag} {G : Hp} {μ μ' : Mu} : ∀ {vs : List V} {ds : List D}, RepL K G μ vs ds → noRL ds = true → RepL K G μ' vs ds
  | _, _, .nil, _ => .nil
  | _, _, .cons h r, e => by
    unfold noRL at e
    rw [Bool.and_eq_true] at e
    exact .cons (Rep.nomu h e.1) (RepL.nomu r e.2)
end
def plainO : Ob → Bool
  | .dict kvs => noRL (kvs.map (·.2))
  | .lst ds => noRL ds
  | .ins _ fs => noRL (fs.map (·.2))
  | .tab _ _ => true
  | .nd kvs => noRL (kvs.map (·.1)) && noRL (kvs.map (·.2))
theorem OR.nomu {wW : World} {K : PySem.W.Frag} {G H : Hp} {μ μ' : Mu} {a : Addr} {o : Ob} (x : OR wW K G μ H a o) (e : plainO o = true) : OR wW K G μ' H a o := by
  cases o with
  | dict kvs => obtain ⟨ws, h, k, r⟩ := x; exact ⟨ws, h, k, r.nomu e⟩
  | lst ds => obtain ⟨vs, h, r⟩ := x; exact ⟨vs, h, r.nomu e⟩
  | ins C fs => obtain ⟨dx, ws, h, k, r⟩ := x; exact ⟨dx, ws, h, k, r.nomu e⟩
  | tab P q => exact x
  | nd kvs =>
    have e : (noRL (kvs.map (·.1)) && noRL (kvs.map (·.2))) = true := e
    rw [Bool.and_eq_true] at e
    obtain ⟨ks, vs, h, r⟩ := x
    exact ⟨ks, vs, h, r.nk, r.dp, r.k.nomu e.1, r.v.nomu e.2⟩
def fTake (f : En → M D) : En → M (List D) := fun ρ st => match f ρ st with
  | .ok (.ref m) s => (match s[m]? with
    | some (.lst ds) => if m + 1 = s.length ∧ st.length ≤ m ∧ noRL ds = true ∧ (s.take m).all plainO = true then .ok ds (s.take m) else .bad
    | _ => .bad)
  | .ok _ _ => .bad
  | .err x s => .err x s
  | .bad => .bad
section
variable {X : Cx} {E : XK} {H0 : Hp} {e a b : Expr} {f g : En → M D} {pos : Pos}
theorem jf_take (h : JE X E H0 f e) : JF X E H0 (fTake f) e := PE.imp h fun σ H Q ⟨G, μ, st, ρ, w, er, q⟩ => by
  refine ⟨G, μ, st, ρ, w, er, ?_⟩
  have q : Post X.w X.K X.mg E (rFresh X.K) H G μ (fTake f ρ st) Q := q
  unfold fTake at q
  cases ef : f ρ st with
  | bad => rw [ef] at q; exact q.elim
  | err y s => rw [ef] at q; exact q
  | ok d s =>
    rw [ef] at q
    cases d with
    | ref m =>
      dsimp only at q
      cases es : s[m]? with
      | none => rw [es] at q; exact q.elim
      | some o =>
        rw [es] at q
        cases o with
        | lst ds =>
          dsimp only at q
          by_cases hc : m + 1 = s.length ∧ st.length ≤ m ∧ noRL ds = true ∧ (s.take m).all plainO = true
          · rw [if_pos hc] at q
            obtain ⟨h1, h2, h3, h4⟩ := hc
            intro v H' G' μ' w' t r
            cases r with
            | ref hm =>
              rename_i a
              obtain ⟨a', e1, e2, vs, hv, hr⟩ := w'.obj m _ es
              rw [hm] at e1; cases e1
              have hmn : μ m = none := by
                cases hq : μ m with
                | none => rfl
                | some b => have := w.dom m b hq; omega
              refine q (.ref a) H' G' (fun n => if n = m then none else μ' n) ⟨w'.imm, fun n o hn => ?_, fun n k b hn hk => ?_, fun n b hn => ?_⟩ ⟨t.g, fun n b hn => ?_, t.fr, t.th, t.ng, fun n b hn hb => ?_⟩ ⟨a, vs, rfl, hv, hr.nomu h3, e2, fun n hn => ?_, t.nm m a hmn hm⟩
              · have hlt : n < m := by
                  have := (List.getElem?_eq_some_iff.mp hn).1
                  rw [List.length_take] at this; omega
                rw [List.getElem?_take_of_lt hlt] at hn
                obtain ⟨c, c1, c2, c3⟩ := w'.obj n o hn
                refine ⟨c, by rw [if_neg (by omega)]; exact c1, c2, c3.nomu ?_⟩
                refine List.all_eq_true.mp h4 o (List.mem_of_getElem? (i := n) ?_)
                rw [List.getElem?_take_of_lt hlt]; exact hn
              · skip
                by_cases n1 : n = m
                · rw [if_pos n1] at hn; cases hn
                · by_cases n2 : k = m
                  · rw [if_pos n2] at hk; cases hk
                  · rw [if_neg n1] at hn; rw [if_neg n2] at hk
                    exact w'.inj n k b hn hk
              · skip
                by_cases n1 : n = m
                · rw [if_pos n1] at hn; cases hn
                · rw [if_neg n1] at hn
                  have := w'.dom n b hn
                  rw [List.length_take]; omega
              · have := w.dom n b hn

                rw [if_neg (by omega)]; exact t.m n b hn
              · skip
                by_cases n1 : n = m
                · rw [if_pos n1] at hb; cases hb
                · rw [if_neg n1] at hb
                  exact t.nm n b hn hb
              · dsimp only at hn
                by_cases n1 : n = m
                · rw [if_pos n1] at hn; cases hn
                · rw [if_neg n1] at hn
                  exact n1 (w'.inj n m a hn hm)
          · rw [if_neg hc] at q; exact q.elim
        | _ => exact q.elim
    | _ => exact q.elim
/-- two lists behind one another, in their maker's hands -/
def fAddL (f g : En → M D) : En → M (List D) := fun ρ => (f ρ).bind fun x => (g ρ).bind fun y => match x, y with
  | .lst xs, .lst ys => (line (xs.length + ys.length)).bind fun _ => M.pure (xs ++ ys)
  | _, _ => M.bad
theorem jf_addL (ha : JB X E H0 f a) (hb : JB X E H0 g b) : JF X E H0 (fAddL f g) (.BinOp a .Add b pos) := PE.imp (pe_op op_cat ha hb) fun σ H Q ⟨G, μ, st, ρ, w, er, q⟩ => by
  refine ⟨G, μ, st, ρ, w, er, Post.bind q fun dx st1 x H1 G1 μ1 w1 s1 r1 q1 => ?_⟩
  refine ⟨G1, μ1, st1, ρ, w1, er.step s1, Post.bind q1 fun dy st2 y H2 G2 μ2 w2 s2 r2 q2 => ?_⟩
  have rx := (r1.step s2).weak
  have ry := r2.weak
  cases dx with
  | lst xs =>
    cases dy with
    | lst ys =>
      obtain ⟨c, h⟩ := Post.line (X := X) q2
      obtain ⟨p, vs, rfl, h1, r1⟩ := rx.lst w2.imm
      obtain ⟨q, us, rfl, h2, r2⟩ := ry.lst w2.imm
      refine ⟨p, q, vs, us, rfl, rfl, h1, h2, by rw [RepL.length r1, RepL.length r2]; exact c, fun l hl => ?_⟩
      obtain ⟨w3, s3⟩ := w2.lay (o := .lst (vs ++ us)) hl
      have gp : G2 l = none := none_before w2.imm.th hl
      refine h _ _ _ _ w3 s3 ⟨l, vs ++ us, rfl, upd_same, r1.append r2, gp, fun k e => ?_, hl⟩
      obtain ⟨b, h1, _, h3⟩ := w2.obj k _ (List.getElem?_eq_getElem (w2.dom k l e))
      rw [e] at h1; cases h1
      obtain ⟨u, hu⟩ := h3.there
      rw [hl] at hu; cases hu
    | _ => exact q2.elim
  | _ => cases dy <;> exact q2.elim
end
end PL

set_option linter.all false
/-! PG0: what the drawing defs of the laws do (printed). -/
namespace PG
open PySem PySem.Spec L2 PL
def s_law_feed : En → M (Fl × En) := sRet (eDict ["cells", "at", "rest", "made"] [eL (eLc (iSeq (eSl (eVar 0) oNo (oSo (eC (.int 63))))) (.nm 1) [1] (tTrue) (e1 intM (eVar 1))), eC (.int 0), eC (.int 0), eC (.int 0)])
def m_law_feed : List D → M D := runB 2 s_law_feed
def s_law_draw : En → M (Fl × En) := sSeq (sDPut (eVar 0) (eC (.str "made")) (e2 addM (e2 dgM (eVar 0) (eC (.str "made"))) (eC (.int 1)))) (sSeq (sIf (tBl (e2 gtM (e2 dgM (eVar 0) (eC (.str "rest"))) (eC (.int 0)))) (sSeq (sSet 2 (e2 modM (e1 intM (e2 dgM (eVar 0) (eC (.str "rest")))) (eVar 1))) (sSeq (sDPut (eVar 0) (eC (.str "rest")) (e2 fdivM (e2 dgM (eVar 0) (eC (.str "rest"))) (eVar 1))) (sRet (eVar 2)))) (sNil)) (sSeq (sPar 3 4 (e2 dgM (eVar 0) (eC (.str "cells"))) (e2 dgM (eVar 0) (eC (.str "at")))) (sSeq (sDPut (eVar 0) (eC (.str "at")) (e2 addM (eVar 4) (eC (.int 1)))) (sSeq (sSet 5 (eIf (tBl (e2 neM (eVar 3) (eLst (aNil)))) (e2 ixM (eVar 3) (e2 modM (e1 intM (eVar 4)) (e1 lenM (eVar 3)))) (eC (.int 27644437)))) (sSeq (sIf (tAn (tBl (e2 geM (eVar 5) (e2 powM (eC (.int 10)) (eC (.int 18))))) (tBl (e2 ltM (eVar 4) (e1 lenM (eVar 3))))) (sSeq (sDPut (eVar 0) (eC (.str "rest")) (e2 fdivM (eVar 5) (eVar 1))) (sRet (e2 modM (e1 intM (eVar 5)) (eVar 1)))) (sNil)) (sSeq (sSet 6 (e2 modM (e1 intM (e2 addM (e2 addM (e2 modM (e1 intM (eVar 5)) (eC (.int 1000000403))) (e2 mulM (eC (.int 70001)) (e2 dgM (eVar 0) (eC (.str "made"))))) (eC (.int 97)))) (eC (.int 2147483587)))) (sSeq (sSet 6 (e2 modM (e1 intM (e2 addM (e2 addM (e2 mulM (eVar 6) (eVar 6)) (e2 mulM (eC (.int 3900017)) (e2 dgM (eVar 0) (eC (.str "made"))))) (eC (.int 31)))) (eC (.int 2147483563)))) (sSeq (sSet 6 (e2 modM (e1 intM (e2 addM (e2 mulM (eVar 6) (eVar 6)) (e2 mulM (eC (.int 307)) (eVar 6)))) (eC (.int 2147483497)))) (sRet (e2 modM (e1 intM (e2 fdivM (eVar 6) (eC (.int 32)))) (eVar 1)))))))))))
def m_law_draw : List D → M D := runB 7 s_law_draw
def s_law_pick : En → M (Fl × En) := sRet (e2 ixM (eVar 1) (eCall 2 m_law_draw (aCons (eVar 0) (aCons (e1 lenM (eVar 1)) (aNil)))))
def m_law_pick : List D → M D := runB 2 s_law_pick
def s_law_names : En → M (Fl × En) := sSeq (sSet 2 (eC (.str "abcdefghijklmnopqrstuvwxyz"))) (sSeq (sSet 3 (eLst (aCons (eC (.str "put")) (aCons (eC (.str "take")) (aCons (eC (.str "do")) (aCons (eC (.str "party")) (aCons (eC (.str "channel")) (aCons (eC (.str "arrow")) (aCons (eC (.str "queue")) (aCons (eC (.str "bag")) (aCons (eC (.str "call")) (aCons (eC (.str "a")) (aCons (eC (.str "ab")) (aCons (eC (.str "abc")) (aCons (eC (.str "z")) (aNil)))))))))))))))) (sSeq (sPar 4 5 (eCall 2 m_law_draw (aCons (eVar 0) (aCons (eC (.int 3)) (aNil)))) (eCall 2 m_law_draw (aCons (eVar 0) (aCons (eC (.int 8)) (aNil))))) (sSeq (sSet 6 (eM1 joinM (eC (.str "")) (eL (eLc (iRange1 (aCons (eVar 5) (aNil))) (.nm 7) [7] (tTrue) (e2 ixM (eVar 2) (eCall 2 m_law_draw (aCons (eVar 0) (aCons (eC (.int 26)) (aNil))))))))) (sSeq (sParO 8 9 (eCall 2 m_law_draw (aCons (eVar 0) (aCons (e2 addM (eVar 5) (eC (.int 1))) (aNil)))) (fLst (aNil))) (sSeq (sFor (iRange1 (aCons (eVar 1) (aNil))) (.nm 7) (sSeq (sSet 10 (e2 addM (e2 addM (eSl (eVar 6) oNo (oSo (eVar 8))) (e2 ixM (eVar 2) (eCall 2 m_law_draw (aCons (eVar 0) (aCons (eC (.int 26)) (aNil)))))) (eSl (eVar 6) (oSo (eVar 8)) oNo))) (sSeq (sIf (tBl (e2 eqM (eVar 4) (eC (.int 1)))) (sSet 10 (eCall 2 m_law_pick (aCons (eVar 0) (aCons (eVar 3) (aNil))))) (sNil)) (sSeq (sIf (tBl (e2 eqM (eVar 4) (eC (.int 2)))) (sSet 10 (eM1 joinM (eC (.str "")) (eL (eLc (iRange1 (aCons (e2 addM (eC (.int 1)) (eCall 2 m_law_draw (aCons (eVar 0) (aCons (eC (.int 8)) (aNil))))) (aNil))) (.nm 11) [11] (tTrue) (e2 ixM (eVar 2) (eCall 2 m_law_draw (aCons (eVar 0) (aCons (eC (.int 26)) (aNil))))))))) (sNil)) (sSeq (sIf (tBl (e2 inM (eVar 10) (eLook 9))) (sSet 10 (e2 ixM (eL (eLc (iSeq (eVar 2)) (.nm 12) [12] (tBl (e2 notInM (eVar 12) (eLook 9))) (eVar 12))) (eC (.int 0)))) (sNil)) (sApp 9 (eVar 10))))))) (sFrz 9 (sRet (eVar 9))))))))
def m_law_names : List D → M D := runB 13 s_law_names
def s_law_spots : En → M (Fl × En) := sSeq (sSet 1 (e2 addM (e2 mulM (eCall 2 m_law_draw (aCons (eVar 0) (aCons (eC (.int 1000000)) (aNil)))) (e2 powM (eC (.int 10)) (eC (.int 54)))) (eCall 2 m_law_draw (aCons (eVar 0) (aCons (eC (.int 1000000)) (aNil)))))) (sSeq (sSet 2 (eLst (aCons (eC (.int 0)) (aCons (eC (.int 1)) (aCons (eC (.int 2)) (aCons (e2 addM (eC (.int 9)) (eCall 2 m_law_draw (aCons (eVar 0) (aCons (eC (.int 3)) (aNil))))) (aCons (eC (.int 3)) (aCons (eVar 1) (aCons (eCall 2 m_law_draw (aCons (eVar 0) (aCons (eC (.int 1000)) (aNil)))) (aCons (e2 addM (eC (.int 98)) (eCall 2 m_law_draw (aCons (eVar 0) (aCons (eC (.int 4)) (aNil))))) (aNil))))))))))) (sSeq (sSet 3 (eCall 2 m_law_draw (aCons (eVar 0) (aCons (eC (.int 8)) (aNil))))) (sRet (eSl (e2 addM (eVar 2) (eVar 2)) (oSo (eVar 3)) (oSo (e2 addM (e2 addM (eVar 3) (eC (.int 1))) (eCall 2 m_law_draw (aCons (eVar 0) (aCons (eC (.int 8)) (aNil))))))))))
def m_law_spots : List D → M D := runB 4 s_law_spots
def s_law_doings : En → M (Fl × En) := sSeq (sOwn 3 (fLst (aCons (eTup (aCons (eC (.str "do")) (aCons (e2 ixM (eVar 2) (eC (.int 0))) (aNil)))) (aCons (eTup (aCons (eC (.str "do")) (aCons (e2 ixM (eVar 2) (eC (.int 1))) (aNil)))) (aNil))))) (sSeq (sFor (iSeq (eVar 1)) (.tp [4, 5, 6, 7]) (sIf (tBl (e2 inM (eVar 0) (eTup (aCons (eVar 5) (aCons (eVar 6) (aNil)))))) (sExt 3 (eL (eLc (iSeq (eVar 2)) (.nm 8) [8] (tTrue) (eTup (aCons (eIf (tBl (e2 eqM (eVar 0) (eVar 5))) (eC (.str "put")) (eC (.str "take"))) (aCons (eVar 4) (aCons (eVar 8) (aNil)))))))) (sNil))) (sFrz 3 (sRet (eVar 3))))
def m_law_doings : List D → M D := runB 9 s_law_doings
def s_law_party : En → M (Fl × En) := sSeq (sOwn 4 (fLst (aNil))) (sSeq (sFor (iRange1 (aCons (eCall 2 m_law_draw (aCons (eVar 0) (aCons (eC (.int 5)) (aNil)))) (aNil))) (.nm 5) (sSeq (sSet 6 (eTup (aCons (eCall 2 m_law_pick (aCons (eVar 0) (aCons (eVar 3) (aNil)))) (aCons (eCall 2 m_law_pick (aCons (eVar 0) (aCons (eVar 2) (aNil)))) (aCons (eCall 2 m_law_pick (aCons (eVar 0) (aCons (eVar 3) (aNil)))) (aNil)))))) (sIf (tBl (e2 notInM (eVar 6) (eLook 4))) (sApp 4 (eVar 6)) (sNil)))) (sSeq (sSet 7 (e1 ssetM (eL (eLc (iRange1 (aCons (eCall 2 m_law_draw (aCons (eVar 0) (aCons (eC (.int 4)) (aNil)))) (aNil))) (.nm 5) [5] (tTrue) (eCall 2 m_law_pick (aCons (eVar 0) (aCons (eVar 3) (aNil)))))))) (sRet (eTup (aCons (eVar 1) (aCons (e1 tupM (eVar 7)) (aCons (e1 tupM (eLook 4)) (aNil))))))))
def m_law_party : List D → M D := runB 8 s_law_party
def s_law_built : En → M (Fl × En) := sSeq (sSet 1 (e1 sortedM (eCall 2 m_law_names (aCons (eVar 0) (aCons (e2 ixM (eLst (aCons (eC (.int 3)) (aCons (eC (.int 2)) (aCons (eC (.int 4)) (aCons (eC (.int 2)) (aCons (eC (.int 3)) (aCons (eC (.int 1)) (aCons (eC (.int 0)) (aCons (eC (.int 2)) (aNil)))))))))) (eCall 2 m_law_draw (aCons (eVar 0) (aCons (eC (.int 8)) (aNil))))) (aNil)))))) (sSeq (sUn (.tp [2, 3, 4]) (eTup (aCons (eCall 2 m_law_names (aCons (eVar 0) (aCons (eC (.int 6)) (aNil)))) (aCons (eCall 2 m_law_names (aCons (eVar 0) (aCons (eC (.int 3)) (aNil)))) (aCons (eCall 1 m_law_spots (aCons (eVar 0) (aNil))) (aNil)))))) (sSeq (sIf (tBl (e2 eqM (eCall 2 m_law_draw (aCons (eVar 0) (aCons (eC (.int 3)) (aNil)))) (eC (.int 0)))) (sSet 2 (e2 addM (eVar 1) (eL (eLc (iSeq (eVar 2)) (.nm 5) [5] (tBl (e2 notInM (eVar 5) (eVar 1))) (eVar 5))))) (sNil)) (sSeq (sOwn 6 (fLst (aNil))) (sSeq (sFor (iSeq (e1 sortedM (eSl (eVar 2) oNo (oSo (eIf (tBl (e2 gtM (e1 lenM (eVar 1)) (eC (.int 1)))) (e2 ixM (eLst (aCons (eC (.int 2)) (aCons (eC (.int 3)) (aCons (eC (.int 1)) (aCons (eC (.int 4)) (aCons (eC (.int 0)) (aCons (eC (.int 6)) (aNil)))))))) (eCall 2 m_law_draw (aCons (eVar 0) (aCons (eC (.int 6)) (aNil))))) (eC (.int 0))))))) (.nm 5) (sSeq (sSet 7 (eCall 2 m_law_draw (aCons (eVar 0) (aCons (e1 lenM (eVar 1)) (aNil))))) (sSeq (sSet 8 (e2 modM (e1 intM (e2 addM (e2 addM (eVar 7) (eC (.int 1))) (eCall 2 m_law_draw (aCons (eVar 0) (aCons (e2 subM (e1 lenM (eVar 1)) (eC (.int 1))) (aNil)))))) (e1 lenM (eVar 1)))) (sApp 6 (eTup (aCons (eVar 5) (aCons (e2 ixM (eVar 1) (eVar 7)) (aCons (e2 ixM (eVar 1) (eVar 8)) (aCons (eCall 2 m_law_pick (aCons (eVar 0) (aCons (eLst (aCons (eC (.str "queue")) (aCons (eC (.str "bag")) (aCons (eC (.str "call")) (aNil))))) (aNil)))) (aNil)))))))))) (sSeq (sFrz 6 (sSet 9 (eL (eLc (iSeq (eVar 1)) (.nm 10) [10] (tTrue) (eCall 4 m_law_party (aCons (eVar 0) (aCons (eVar 10) (aCons (eCall 3 m_law_doings (aCons (eVar 10) (aCons (eVar 6) (aCons (eVar 3) (aNil))))) (aCons (eVar 4) (aNil)))))))))) (sRet (eTup (aCons (e1 tupM (eVar 9)) (aCons (e1 tupM (eLook 6)) (aNil))))))))))
def m_law_built : List D → M D := runB 11 s_law_built
end PG

set_option linter.all false
set_option maxRecDepth 100000
set_option maxHeartbeats 4000000
/-! PG1: what the drawing defs give. -/
namespace PG
open PySem PySem.Spec L2 PL
def feedOb (cs : List Int) (a r m : Int) : Ob := .dict [(.inr "cells", .lst (cs.map D.int)), (.inr "at", .int a), (.inr "rest", .int r), (.inr "made", .int m)]
/-- the feed stands in the store at n -/
def FOk (n : Nat) (st : Sto) : Prop := ∃ cs a r m, st[n]? = some (feedOb cs a r m) ∧ cs.length ≤ 63 ∧ 0 ≤ a ∧ 0 ≤ r
theorem v_cells {cs : List Int} {a r m : Int} : valD (.inr "cells") [(.inr "cells", .lst (cs.map D.int)), (.inr "at", .int a), (.inr "rest", .int r), (.inr "made", .int m)] = some (.lst (cs.map D.int)) := rfl
example : (Sum.inr "cells" : Key) ≠ .inr "at" := by decide
theorem v_at {cs : List Int} {a r m : Int} : valD (.inr "at") [(.inr "cells", .lst (cs.map D.int)), (.inr "at", .int a), (.inr "rest", .int r), (.inr "made", .int m)] = some (.int a) := rfl
theorem v_rest {cs : List Int} {a r m : Int} : valD (.inr "rest") [(.inr "cells", .lst (cs.map D.int)), (.inr "at", .int a), (.inr "rest", .int r), (.inr "made", .int m)] = some (.int r) := rfl
theorem v_made {cs : List Int} {a r m : Int} : valD (.inr "made") [(.inr "cells", .lst (cs.map D.int)), (.inr "at", .int a), (.inr "rest", .int r), (.inr "made", .int m)] = some (.int m) := rfl
theorem p_at {cs : List Int} {a r m x : Int} : Ob.dict (putD [(.inr "cells", .lst (cs.map D.int)), (.inr "at", .int a), (.inr "rest", .int r), (.inr "made", .int m)] (.inr "at") (.int x)) = feedOb cs x r m := rfl
theorem p_rest {cs : List Int} {a r m x : Int} : Ob.dict (putD [(.inr "cells", .lst (cs.map D.int)), (.inr "at", .int a), (.inr "rest", .int r), (.inr "made", .int m)] (.inr "rest") (.int x)) = feedOb cs a x m := rfl
theorem p_made {cs : List Int} {a r m x : Int} : Ob.dict (putD [(.inr "cells", .lst (cs.map D.int)), (.inr "at", .int a), (.inr "rest", .int r), (.inr "made", .int m)] (.inr "made") (.int x)) = feedOb cs a r x := rfl
theorem four : (4 : Nat) < sizeLine := by decide
/-- a look into the feed -/
theorem wp_get {n : Nat} {st : Sto} {k : Str} {Q : D → Sto → Prop} {cs : List Int} {a r m : Int} {d : D} (h : st[n]? = some (feedOb cs a r m)) (hv : valD (.inr k) [(.inr "cells", .lst (cs.map D.int)), (.inr "at", .int a), (.inr "rest", .int r), (.inr "made", .int m)] = some d) (q : Q d st) : wp (dgM (.ref n) (.str k)) Q st := by
  show wp ((dictAt n).bind fun kvs => opt (valD (.inr k) kvs)) Q st
  rw [wp_bind, wp_dictAt]
  exact ⟨_, h, by rw [hv, wp_some]; exact q⟩
theorem wp_setF {n : Nat} {st : Sto} {k : Str} {d : D} {Q : Unit → Sto → Prop} {cs : List Int} {a r m : Int} {o : Ob} (h : st[n]? = some (feedOb cs a r m)) (hp : Ob.dict (putD [(.inr "cells", .lst (cs.map D.int)), (.inr "at", .int a), (.inr "rest", .int r), (.inr "made", .int m)] (.inr k) d) = o) (q : Q () (st.set n o)) : wp (dpM (.ref n) (.str k) d) Q st := by
  show wp ((dictAt n).bind fun kvs => guardM (decide (kvs.length < sizeLine)) (setAt n (.dict (putD kvs (.inr k) d)))) Q st
  rw [wp_bind, wp_dictAt]
  refine ⟨_, h, ?_⟩
  rw [wp_guard, wp_setAt, hp]
  exact ⟨decide_eq_true four, q⟩
theorem feed_set {n : Nat} {st : Sto} {o o' : Ob} (h : st[n]? = some o') : (st.set n o)[n]? = some o := List.getElem?_set_self (List.getElem?_eq_some_iff.mp h).1
theorem wp_setG {n : Nat} {st : Sto} {k : Str} {d : D} {Q : Unit → Sto → Prop} {cs : List Int} {a r m : Int} {o : Ob} (h : st[n]? = some (feedOb cs a r m)) (hp : Ob.dict (putD [(.inr "cells", .lst (cs.map D.int)), (.inr "at", .int a), (.inr "rest", .int r), (.inr "made", .int m)] (.inr k) d) = o)
    (q : ∀ st', st'[n]? = some o → Same n st st' → Q () st') : wp (dpM (.ref n) (.str k) d) Q st := wp_setF h hp (q _ (feed_set h) ((Same.refl n st).set))
theorem set_made {n : Nat} {st : Sto} {x : Int} {Q : Unit → Sto → Prop} {cs : List Int} {a r m : Int} (h : st[n]? = some (feedOb cs a r m)) (q : ∀ st', st'[n]? = some (feedOb cs a r x) → Same n st st' → Q () st') : wp (dpM (.ref n) (.str "made") (.int x)) Q st := wp_setG h rfl q
theorem set_at {n : Nat} {st : Sto} {x : Int} {Q : Unit → Sto → Prop} {cs : List Int} {a r m : Int} (h : st[n]? = some (feedOb cs a r m)) (q : ∀ st', st'[n]? = some (feedOb cs x r m) → Same n st st' → Q () st') : wp (dpM (.ref n) (.str "at") (.int x)) Q st := wp_setG h rfl q
theorem set_rest {n : Nat} {st : Sto} {x : Int} {Q : Unit → Sto → Prop} {cs : List Int} {a r m : Int} (h : st[n]? = some (feedOb cs a r m)) (q : ∀ st', st'[n]? = some (feedOb cs a x m) → Same n st st' → Q () st') : wp (dpM (.ref n) (.str "rest") (.int x)) Q st := wp_setG h rfl q
theorem get_cells {n : Nat} {st : Sto} {Q : D → Sto → Prop} {cs : List Int} {a r m : Int} (h : st[n]? = some (feedOb cs a r m)) (q : Q (.lst (cs.map D.int)) st) : wp (dgM (.ref n) (.str "cells")) Q st := wp_get h v_cells q
theorem get_at {n : Nat} {st : Sto} {Q : D → Sto → Prop} {cs : List Int} {a r m : Int} (h : st[n]? = some (feedOb cs a r m)) (q : Q (.int a) st) : wp (dgM (.ref n) (.str "at")) Q st := wp_get h v_at q
theorem get_rest {n : Nat} {st : Sto} {Q : D → Sto → Prop} {cs : List Int} {a r m : Int} (h : st[n]? = some (feedOb cs a r m)) (q : Q (.int r) st) : wp (dgM (.ref n) (.str "rest")) Q st := wp_get h v_rest q
theorem get_made {n : Nat} {st : Sto} {Q : D → Sto → Prop} {cs : List Int} {a r m : Int} (h : st[n]? = some (feedOb cs a r m)) (q : Q (.int m) st) : wp (dgM (.ref n) (.str "made")) Q st := wp_get h v_made q
end PG

set_option hygiene false
local macro_rules | `(tactic| subst_eqs) => `(tactic| repeat (first | ((with_reducible apply w_var); exact rfl) | ((with_reducible apply w_look); exact rfl) | ((with_reducible apply w_lookV); exact rfl) | with_reducible (first | refine k_seq ?_ | refine k_seqR ?_ | refine k_run ?_ | refine k_runN ?_ | refine k_bl ?_ | refine k_str ?_ | refine k_int ?_ | refine k_ifT ?_ | refine k_ifF ?_ | refine k_ifnF ?_ | refine k_ifnT ?_ | refine w_seq ?_ | refine w_dput ?_ | refine w_e2 ?_ | refine w_e1 ?_ | refine w_c ?_ | refine w_addI ?_ | refine w_if ?_ | refine w_tBl ?_ | refine w_gtI ?_ | refine w_ltI ?_ | refine w_leI ?_ | refine w_geI ?_ | refine w_ret ?_ | refine w_nil ?_ | refine w_pass ?_ | refine w_expr ?_ | refine w_lenL ?_ | refine w_lenT ?_ | refine w_intI ?_ | refine w_eIf ?_ | refine w_tAn ?_ | refine w_tOr ?_ | refine w_tNt ?_ | refine w_vAnd ?_ | refine w_vOr ?_ | refine w_vNot ?_ | refine w_eCh ?_ | refine w_neg ?_ | refine w_oNo ?_ | refine w_oSo ?_ | refine w_sl ?_ | refine w_m1 ?_ | refine w_aN ?_ | refine w_aC ?_ | refine w_eL ?_ | refine w_call ?_ | refine w_true ?_ | refine w_slL ?_ | refine w_slT ?_ | refine w_slF ?_ | refine w_tupL ?_ | refine w_tupT ?_ | refine w_frz ?_ | refine w_iR1 ?_ | refine w_iSeq ?_ | refine w_for ?_ | refine w_lc ?_ | refine w_tup ?_ | refine w_lst ?_ | refine w_fLst ?_ | refine w_un ?_ | refine w_dict ?_ | refine w_aLn ?_ | refine i_tuple_NoneType ?_ | refine i_tuple_bool ?_ | refine i_tuple_int ?_ | refine i_tuple_str ?_ | refine i_tuple_tuple ?_ | refine i_tuple_list ?_ | refine i_str_NoneType ?_ | refine i_str_bool ?_ | refine i_str_int ?_ | refine i_str_str ?_ | refine i_str_tuple ?_ | refine i_str_list ?_ | refine i_int_NoneType ?_ | refine i_int_bool ?_ | refine i_int_int ?_ | refine i_int_str ?_ | refine i_int_tuple ?_ | refine i_int_list ?_ | refine i_bool_NoneType ?_ | refine i_bool_bool ?_ | refine i_bool_int ?_ | refine i_bool_str ?_ | refine i_bool_tuple ?_ | refine i_bool_list ?_ | refine i_list_NoneType ?_ | refine i_list_bool ?_ | refine i_list_int ?_ | refine i_list_str ?_ | refine i_list_tuple ?_ | refine i_list_list ?_ | refine n_is_NoneType ?_ | refine n_not_NoneType ?_ | refine n_is_bool ?_ | refine n_not_bool ?_ | refine n_is_int ?_ | refine n_not_int ?_ | refine n_is_str ?_ | refine n_not_str ?_ | refine n_is_tuple ?_ | refine n_not_tuple ?_ | refine n_is_list ?_ | refine n_not_list ?_) | ((with_reducible apply w_app); exact rfl) | ((with_reducible apply w_ext); exact rfl) | with_reducible refine w_set (by decide) ?_ | with_reducible refine w_own (by decide) ?_ | with_reducible refine w_set (by simp) ?_ | with_reducible refine w_own (by simp) ?_ | with_reducible refine w_par (by simp) (by simp) ?_ | with_reducible refine w_parO (by simp) (by simp) ?_))
local macro_rules | `(tactic| and_intros) => `(tactic| repeat (first | ((with_reducible apply w_var); exact rfl) | ((with_reducible apply w_look); exact rfl) | ((with_reducible apply w_lookV); exact rfl) | with_reducible (first | refine k_seq ?_ | refine k_seqR ?_ | refine k_run ?_ | refine k_runN ?_ | refine k_bl ?_ | refine k_str ?_ | refine k_int ?_ | refine k_ifT ?_ | refine k_ifF ?_ | refine k_ifnF ?_ | refine k_ifnT ?_ | refine w_seq ?_ | refine w_dput ?_ | refine w_e2 ?_ | refine w_e1 ?_ | refine w_c ?_ | refine w_addI ?_ | refine w_if ?_ | refine w_tBl ?_ | refine w_gtI ?_ | refine w_ltI ?_ | refine w_leI ?_ | refine w_geI ?_ | refine w_ret ?_ | refine w_nil ?_ | refine w_pass ?_ | refine w_expr ?_ | refine w_lenL ?_ | refine w_lenT ?_ | refine w_intI ?_ | refine w_eIf ?_ | refine w_tAn ?_ | refine w_tOr ?_ | refine w_tNt ?_ | refine w_vAnd ?_ | refine w_vOr ?_ | refine w_vNot ?_ | refine w_eCh ?_ | refine w_neg ?_ | refine w_oNo ?_ | refine w_oSo ?_ | refine w_sl ?_ | refine w_m1 ?_ | refine w_aN ?_ | refine w_aC ?_ | refine w_eL ?_ | refine w_call ?_ | refine w_true ?_ | refine w_slL ?_ | refine w_slT ?_ | refine w_slF ?_ | refine w_tupL ?_ | refine w_tupT ?_ | refine w_frz ?_ | refine w_iR1 ?_ | refine w_iSeq ?_ | refine w_for ?_ | refine w_lc ?_ | refine w_tup ?_ | refine w_lst ?_ | refine w_fLst ?_ | refine w_un ?_ | refine w_dict ?_ | refine w_aLn ?_ | refine i_tuple_NoneType ?_ | refine i_tuple_bool ?_ | refine i_tuple_int ?_ | refine i_tuple_str ?_ | refine i_tuple_tuple ?_ | refine i_tuple_list ?_ | refine i_str_NoneType ?_ | refine i_str_bool ?_ | refine i_str_int ?_ | refine i_str_str ?_ | refine i_str_tuple ?_ | refine i_str_list ?_ | refine i_int_NoneType ?_ | refine i_int_bool ?_ | refine i_int_int ?_ | refine i_int_str ?_ | refine i_int_tuple ?_ | refine i_int_list ?_ | refine i_bool_NoneType ?_ | refine i_bool_bool ?_ | refine i_bool_int ?_ | refine i_bool_str ?_ | refine i_bool_tuple ?_ | refine i_bool_list ?_ | refine i_list_NoneType ?_ | refine i_list_bool ?_ | refine i_list_int ?_ | refine i_list_str ?_ | refine i_list_tuple ?_ | refine i_list_list ?_ | refine n_is_NoneType ?_ | refine n_not_NoneType ?_ | refine n_is_bool ?_ | refine n_not_bool ?_ | refine n_is_int ?_ | refine n_not_int ?_ | refine n_is_str ?_ | refine n_not_str ?_ | refine n_is_tuple ?_ | refine n_not_tuple ?_ | refine n_is_list ?_ | refine n_not_list ?_) | ((with_reducible apply w_app); exact rfl) | ((with_reducible apply w_ext); exact rfl) | with_reducible refine w_set (by decide) ?_ | with_reducible refine w_own (by decide) ?_ | with_reducible refine w_set (by simp) ?_ | with_reducible refine w_own (by simp) ?_ | with_reducible refine w_par (by simp) (by simp) ?_ | with_reducible refine w_parO (by simp) (by simp) ?_ | ((with_reducible apply get_cells); assumption) | ((with_reducible apply get_at); assumption) | ((with_reducible apply get_rest); assumption) | ((with_reducible apply get_made); assumption)))
local macro_rules | `(tactic| symm_saturate) => `(tactic| repeat (first | ((with_reducible apply w_var); exact rfl) | ((with_reducible apply w_look); exact rfl) | ((with_reducible apply w_lookV); exact rfl) | with_reducible (first | refine k_seq ?_ | refine k_seqR ?_ | refine k_run ?_ | refine k_runN ?_ | refine k_bl ?_ | refine k_str ?_ | refine k_int ?_ | refine k_ifT ?_ | refine k_ifF ?_ | refine k_ifnF ?_ | refine k_ifnT ?_ | refine w_seq ?_ | refine w_dput ?_ | refine w_e2 ?_ | refine w_e1 ?_ | refine w_c ?_ | refine w_addI ?_ | refine w_if ?_ | refine w_tBl ?_ | refine w_gtI ?_ | refine w_ltI ?_ | refine w_leI ?_ | refine w_geI ?_ | refine w_ret ?_ | refine w_nil ?_ | refine w_pass ?_ | refine w_expr ?_ | refine w_lenL ?_ | refine w_lenT ?_ | refine w_intI ?_ | refine w_eIf ?_ | refine w_tAn ?_ | refine w_tOr ?_ | refine w_tNt ?_ | refine w_vAnd ?_ | refine w_vOr ?_ | refine w_vNot ?_ | refine w_eCh ?_ | refine w_neg ?_ | refine w_oNo ?_ | refine w_oSo ?_ | refine w_sl ?_ | refine w_m1 ?_ | refine w_aN ?_ | refine w_aC ?_ | refine w_eL ?_ | refine w_call ?_ | refine w_true ?_ | refine w_slL ?_ | refine w_slT ?_ | refine w_slF ?_ | refine w_tupL ?_ | refine w_tupT ?_ | refine w_frz ?_ | refine w_iR1 ?_ | refine w_iSeq ?_ | refine w_for ?_ | refine w_lc ?_ | refine w_tup ?_ | refine w_lst ?_ | refine w_fLst ?_ | refine w_un ?_ | refine w_dict ?_ | refine w_aLn ?_ | refine n_is_NoneType ?_ | refine n_not_NoneType ?_ | refine i_tuple_NoneType ?_ | refine i_tuple_bool ?_ | refine i_tuple_int ?_ | refine i_tuple_str ?_ | refine i_tuple_tuple ?_ | refine i_tuple_list ?_) | ((with_reducible apply w_app); exact rfl) | ((with_reducible apply w_ext); exact rfl) | with_reducible refine w_set (by decide) ?_ | with_reducible refine w_own (by decide) ?_ | with_reducible refine w_set (by simp) ?_ | with_reducible refine w_own (by simp) ?_ | with_reducible refine w_par (by simp) (by simp) ?_ | with_reducible refine w_parO (by simp) (by simp) ?_ | ((with_reducible apply x_var); exact rfl) | ((with_reducible apply x_look); exact rfl) | ((with_reducible apply x_lookV); exact rfl) | with_reducible (first | refine kx_seq ?_ | refine kx_seqR ?_ | refine x_seq ?_ | refine x_if ?_ | refine x_ret ?_ | refine x_nil ?_ | refine x_pass ?_ | refine x_expr ?_ | refine x_eL ?_ | refine x_call ?_ | refine x_tBl ?_ | refine x_tNt ?_ | refine x_tAn ?_ | refine x_tOr ?_ | refine x_eIf ?_ | refine x_aN ?_ | refine x_aC ?_ | refine x_tup ?_ | refine x_lst ?_ | refine x_fLst ?_ | refine x_un ?_ | refine x_for ?_ | refine x_iSeq ?_ | refine x_e1 ?_ | refine x_e2 ?_ | refine x_c ?_ | refine x_sl ?_ | refine x_oNo ?_ | refine x_oSo ?_ | refine x_neg ?_ | refine x_raise ?_ | refine x_star ?_ | refine x_frz ?_ | refine x_true ?_ | refine x_lc ?_ | refine x_lc2 ?_) | with_reducible (first | refine wp.x (m := ixM _ _) ?_ | refine wp.x (m := lenM _) ?_ | refine wp.x (m := eqM _ _) ?_ | refine wp.x (m := neM _ _) ?_ | refine wp.x (m := inM _ _) ?_ | refine wp.x (m := notInM _ _) ?_ | refine wp.x (m := isNM _) ?_ | refine wp.x (m := notNM _) ?_ | refine wp.x (m := tupM _) ?_ | refine wp.x (m := lstM _) ?_ | refine wp.x (m := ssetA _) ?_ | refine wp.x (m := slM _ _ _) ?_ | refine wp.x (m := isiM _ _) ?_ | refine wp.x (m := geM _ _) ?_ | refine wp.x (m := gtM _ _) ?_ | refine wp.x (m := ltM _ _) ?_ | refine wp.x (m := leM _ _) ?_) | ((with_reducible apply x_app); exact rfl) | ((with_reducible apply x_ext); exact rfl) | with_reducible refine x_set (by decide) ?_ | with_reducible refine x_own (by decide) ?_ | with_reducible refine x_set (by simp) ?_ | with_reducible refine x_own (by simp) ?_))
local macro_rules | `(tactic| false_or_by_contra) => `(tactic| repeat (first | ((with_reducible apply w_var); exact rfl) | ((with_reducible apply w_look); exact rfl) | ((with_reducible apply w_lookV); exact rfl) | with_reducible (first | refine k_seq ?_ | refine k_seqR ?_ | refine k_run ?_ | refine k_runN ?_ | refine k_bl ?_ | refine k_str ?_ | refine k_int ?_ | refine k_ifT ?_ | refine k_ifF ?_ | refine k_ifnF ?_ | refine k_ifnT ?_ | refine w_seq ?_ | refine w_dput ?_ | refine w_e2 ?_ | refine w_e1 ?_ | refine w_c ?_ | refine w_addI ?_ | refine w_if ?_ | refine w_tBl ?_ | refine w_gtI ?_ | refine w_ltI ?_ | refine w_leI ?_ | refine w_geI ?_ | refine w_ret ?_ | refine w_nil ?_ | refine w_pass ?_ | refine w_expr ?_ | refine w_lenL ?_ | refine w_lenT ?_ | refine w_intI ?_ | refine w_eIf ?_ | refine w_tAn ?_ | refine w_tOr ?_ | refine w_tNt ?_ | refine w_vAnd ?_ | refine w_vOr ?_ | refine w_vNot ?_ | refine w_eCh ?_ | refine w_neg ?_ | refine w_oNo ?_ | refine w_oSo ?_ | refine w_sl ?_ | refine w_m1 ?_ | refine w_aN ?_ | refine w_aC ?_ | refine w_eL ?_ | refine w_call ?_ | refine w_true ?_ | refine w_slL ?_ | refine w_slT ?_ | refine w_slF ?_ | refine w_tupL ?_ | refine w_tupT ?_ | refine w_frz ?_ | refine w_iR1 ?_ | refine w_iSeq ?_ | refine w_for ?_ | refine w_lc ?_ | refine w_tup ?_ | refine w_lst ?_ | refine w_fLst ?_ | refine w_un ?_ | refine w_dict ?_ | refine w_aLn ?_ | refine n_is_NoneType ?_ | refine n_not_NoneType ?_ | refine i_tuple_NoneType ?_ | refine i_tuple_bool ?_ | refine i_tuple_int ?_ | refine i_tuple_str ?_ | refine i_tuple_tuple ?_ | refine i_tuple_list ?_) | ((with_reducible apply w_app); exact rfl) | ((with_reducible apply w_ext); exact rfl) | with_reducible refine w_set (by decide) ?_ | with_reducible refine w_own (by decide) ?_ | with_reducible refine w_set (by simp) ?_ | with_reducible refine w_own (by simp) ?_ | with_reducible refine w_par (by simp) (by simp) ?_ | with_reducible refine w_parO (by simp) (by simp) ?_))
local macro_rules | `(tactic| norm_cast0) => `(tactic| repeat (first | ((with_reducible apply w_var); exact rfl) | ((with_reducible apply w_look); exact rfl) | ((with_reducible apply w_lookV); exact rfl) | with_reducible (first | refine k_seq ?_ | refine k_seqR ?_ | refine k_run ?_ | refine k_runN ?_ | refine k_bl ?_ | refine k_str ?_ | refine k_int ?_ | refine k_ifT ?_ | refine k_ifF ?_ | refine k_ifnF ?_ | refine k_ifnT ?_ | refine w_seq ?_ | refine w_dput ?_ | refine w_e2 ?_ | refine w_e1 ?_ | refine w_c ?_ | refine w_addI ?_ | refine w_if ?_ | refine w_tBl ?_ | refine w_gtI ?_ | refine w_ltI ?_ | refine w_leI ?_ | refine w_geI ?_ | refine w_ret ?_ | refine w_nil ?_ | refine w_pass ?_ | refine w_expr ?_ | refine w_lenL ?_ | refine w_lenT ?_ | refine w_intI ?_ | refine w_eIf ?_ | refine w_tAn ?_ | refine w_tOr ?_ | refine w_tNt ?_ | refine w_vAnd ?_ | refine w_vOr ?_ | refine w_vNot ?_ | refine w_eCh ?_ | refine w_neg ?_ | refine w_oNo ?_ | refine w_oSo ?_ | refine w_sl ?_ | refine w_m1 ?_ | refine w_aN ?_ | refine w_aC ?_ | refine w_eL ?_ | refine w_call ?_ | refine w_true ?_ | refine w_slL ?_ | refine w_slT ?_ | refine w_slF ?_ | refine w_tupL ?_ | refine w_tupT ?_ | refine w_frz ?_ | refine w_iR1 ?_ | refine w_iSeq ?_ | refine w_for ?_ | refine w_lc ?_ | refine w_tup ?_ | refine w_lst ?_ | refine w_fLst ?_ | refine w_un ?_ | refine w_dict ?_ | refine w_aLn ?_ | refine i_tuple_NoneType ?_ | refine i_tuple_bool ?_ | refine i_tuple_int ?_ | refine i_tuple_str ?_ | refine i_tuple_tuple ?_ | refine i_tuple_list ?_ | refine i_str_NoneType ?_ | refine i_str_bool ?_ | refine i_str_int ?_ | refine i_str_str ?_ | refine i_str_tuple ?_ | refine i_str_list ?_ | refine i_int_NoneType ?_ | refine i_int_bool ?_ | refine i_int_int ?_ | refine i_int_str ?_ | refine i_int_tuple ?_ | refine i_int_list ?_ | refine i_bool_NoneType ?_ | refine i_bool_bool ?_ | refine i_bool_int ?_ | refine i_bool_str ?_ | refine i_bool_tuple ?_ | refine i_bool_list ?_ | refine i_list_NoneType ?_ | refine i_list_bool ?_ | refine i_list_int ?_ | refine i_list_str ?_ | refine i_list_tuple ?_ | refine i_list_list ?_ | refine n_is_NoneType ?_ | refine n_not_NoneType ?_ | refine n_is_bool ?_ | refine n_not_bool ?_ | refine n_is_int ?_ | refine n_not_int ?_ | refine n_is_str ?_ | refine n_not_str ?_ | refine n_is_tuple ?_ | refine n_not_tuple ?_ | refine n_is_list ?_ | refine n_not_list ?_) | ((with_reducible apply w_app); exact rfl) | ((with_reducible apply w_ext); exact rfl) | with_reducible refine w_set (by decide) ?_ | with_reducible refine w_own (by decide) ?_ | with_reducible refine w_set (by simp) ?_ | with_reducible refine w_own (by simp) ?_ | with_reducible refine w_par (by simp) (by simp) ?_ | with_reducible refine w_parO (by simp) (by simp) ?_))
set_option hygiene true

set_option linter.all false
set_option maxRecDepth 100000
set_option maxHeartbeats 4000000
namespace PG
open PySem PySem.Spec L2 PL
theorem shp_ints (cs : List Int) : (D.lst (cs.map D.int)).shp = true := (shp_lst fun d hd => by
  obtain ⟨i, _, rfl⟩ := List.mem_map.mp hd
  exact shp_int).shp
theorem shp_nil : (D.lst []).shp = true := by decide
theorem spec_draw {n : Nat} {st : Sto} {many : Int} {Q : D → Sto → Prop} (h : FOk n st) (h0 : 0 < many) (h1 : many < 1073741824) (q : ∀ z st', 0 ≤ z → z < many → FOk n st' → Same n st st' → Q (.int z) st') : wp (m_law_draw [.ref n, .int many]) Q st := by
  obtain ⟨cs, a, r, m, hs, hl, ha, hr⟩ := h
  refine w_run' [.val (.ref n), .val (.int many), .no, .no, .no, .no, .no] rfl ?_
  unfold s_law_draw
  and_intros
  with_reducible apply set_made
  assumption
  intro st1 hs1 sm1
  and_intros
  refine k_if (fun hb => ?_) fun hb => ?_
  · and_intros
    refine w_int2 (decide_eq_true h0) ?_
    and_intros
    refine w_int2 (decide_eq_true ⟨h0, h1⟩) ?_
    and_intros
    with_reducible apply set_rest
    assumption
    intro st2 hs2 sm2
    and_intros
    exact q _ _ (Int.emod_nonneg _ (by omega)) (Int.emod_lt_of_pos _ h0) ⟨cs, a, _, _, hs2, hl, ha, Int.ediv_nonneg hr (by omega)⟩ (sm1.trans sm2)
  · and_intros
    with_reducible apply set_at
    assumption
    intro st2 hs2 sm2
    have fin : ∀ z st', 0 ≤ z → z < many → FOk n st' → Same n st2 st' → Q (.int z) st' := fun z st' z0 z1 f s => q z st' z0 z1 f ((sm1.trans sm2).trans s)
    have ok2 : FOk n st2 := ⟨cs, a + 1, r, m + 1, hs2, hl, by omega, hr⟩
    have tail : ∀ c : Int, wp (sSeq (sSet 6 (e2 modM (e1 intM (e2 addM (e2 addM (e2 modM (e1 intM (eVar 5)) (eC (.int 1000000403))) (e2 mulM (eC (.int 70001)) (e2 dgM (eVar 0) (eC (.str "made"))))) (eC (.int 97)))) (eC (.int 2147483587)))) (sSeq (sSet 6 (e2 modM (e1 intM (e2 addM (e2 addM (e2 mulM (eVar 6) (eVar 6)) (e2 mulM (eC (.int 3900017)) (e2 dgM (eVar 0) (eC (.str "made"))))) (eC (.int 31)))) (eC (.int 2147483563)))) (sSeq (sSet 6 (e2 modM (e1 intM (e2 addM (e2 mulM (eVar 6) (eVar 6)) (e2 mulM (eC (.int 307)) (eVar 6)))) (eC (.int 2147483497)))) (sRet (e2 modM (e1 intM (e2 fdivM (eVar 6) (eC (.int 32)))) (eVar 1))))) [.val (.ref n), .val (.int many), .no, .val (.lst (cs.map D.int)), .val (.int a), .val (.int c), .no]) (RunK Q) st2 := fun c => by
      and_intros
      refine w_int2 (by decide) ?_
      and_intros
      refine w_int2 (decide_eq_true (.inl (by decide))) ?_
      and_intros
      refine w_int2 (by decide) ?_
      and_intros
      refine w_int2 (decide_eq_true (.inl ?_)) ?_
      · have h1 := Int.emod_nonneg (c % 1000000403 + 70001 * (m + 1) + 97) (b := 2147483587) (by decide)
        have h2 := Int.emod_lt_of_pos (c % 1000000403 + 70001 * (m + 1) + 97) (b := 2147483587) (by decide)
        omega
      and_intros
      refine w_int2 (decide_eq_true (.inl (by decide))) ?_
      and_intros
      refine w_int2 (by decide) ?_
      and_intros
      refine w_int2 (decide_eq_true (.inl ?_)) ?_
      · generalize c % 1000000403 + 70001 * (m + 1) + 97 = z
        have h1 := Int.emod_nonneg (z % 2147483587 * (z % 2147483587) + 3900017 * (m + 1) + 31) (b := 2147483563) (by decide)
        have h2 := Int.emod_lt_of_pos (z % 2147483587 * (z % 2147483587) + 3900017 * (m + 1) + 31) (b := 2147483563) (by decide)
        omega
      and_intros
      refine w_int2 (decide_eq_true (.inl (by decide))) ?_
      and_intros
      refine w_int2 (by decide) ?_
      and_intros
      refine w_int2 (decide_eq_true (by decide)) ?_
      and_intros
      refine w_int2 (decide_eq_true h0) ?_
      and_intros
      exact fin _ _ (Int.emod_nonneg _ (by omega)) (Int.emod_lt_of_pos _ h0) ok2 (Same.refl _ _)
    have rest : ∀ c : Int, wp (sSeq (sIf (tAn (tBl (e2 geM (eVar 5) (e2 powM (eC (.int 10)) (eC (.int 18))))) (tBl (e2 ltM (eVar 4) (e1 lenM (eVar 3))))) (sSeq (PL.sDPut (eVar 0) (eC (.str "rest")) (e2 fdivM (eVar 5) (eVar 1))) (sRet (e2 modM (e1 intM (eVar 5)) (eVar 1)))) (sNil)) (sSeq (sSet 6 (e2 modM (e1 intM (e2 addM (e2 addM (e2 modM (e1 intM (eVar 5)) (eC (.int 1000000403))) (e2 mulM (eC (.int 70001)) (e2 dgM (eVar 0) (eC (.str "made"))))) (eC (.int 97)))) (eC (.int 2147483587)))) (sSeq (sSet 6 (e2 modM (e1 intM (e2 addM (e2 addM (e2 mulM (eVar 6) (eVar 6)) (e2 mulM (eC (.int 3900017)) (e2 dgM (eVar 0) (eC (.str "made"))))) (eC (.int 31)))) (eC (.int 2147483563)))) (sSeq (sSet 6 (e2 modM (e1 intM (e2 addM (e2 mulM (eVar 6) (eVar 6)) (e2 mulM (eC (.int 307)) (eVar 6)))) (eC (.int 2147483497)))) (sRet (e2 modM (e1 intM (e2 fdivM (eVar 6) (eC (.int 32)))) (eVar 1)))))) [.val (.ref n), .val (.int many), .no, .val (.lst (cs.map D.int)), .val (.int a), .val (.int c), .no]) (RunK Q) st2 := fun c => by
      and_intros
      refine w_int2 (by decide) ?_
      and_intros
      refine k_if (fun hc => ?_) fun hc => ?_
      · and_intros
        refine k_if (fun hd => ?_) fun hd => ?_
        · and_intros
          refine w_int2 (decide_eq_true ⟨h0, h1⟩) ?_
          and_intros
          with_reducible apply set_rest
          assumption
          intro st3 hs3 sm3
          and_intros
          refine w_int2 (decide_eq_true h0) ?_
          and_intros
          have hc' : (0 : Int) ≤ c := by
            have := of_decide_eq_true hc
            have h18 : (0 : Int) ≤ 10 ^ (18 : Int).toNat := by decide
            omega
          exact fin _ _ (Int.emod_nonneg _ (by omega)) (Int.emod_lt_of_pos _ h0) ⟨cs, _, _, _, hs3, hl, by omega, Int.ediv_nonneg hc' (by omega)⟩ sm3
        · with_reducible refine w_nil ?_
          with_reducible refine k_seq ?_
          exact tail c
      · skip
        with_reducible refine k_ifF ?_
        with_reducible refine w_nil ?_
        with_reducible refine k_seq ?_
        exact tail c
    and_intros
    refine ⟨by decide, w_ne (shp_ints cs) shp_nil ?_⟩
    and_intros
    refine k_if (fun hc => ?_) fun hc => ?_
    · have hne : cs ≠ [] := fun e => by rw [e] at hc; exact absurd hc (by decide)
      have hlen : (0 : Int) < ((cs.map D.int).length : Int) := by
        rw [List.length_map]
        cases cs with
        | nil => exact absurd rfl hne
        | cons _ _ => simp
      and_intros
      refine w_int2 (decide_eq_true hlen) ?_
      and_intros
      obtain ⟨c, hc1, hc2⟩ := atI_lt (xs := cs) (Int.emod_nonneg a (by rw [List.length_map] at hlen; omega)) (Int.emod_lt_of_pos a (by rw [List.length_map] at hlen; exact hlen))
      refine w_ixL (d := .int c) (by rw [atI_map, List.length_map, hc1]; rfl) ?_
      with_reducible refine k_seq ?_
      exact rest c
    · with_reducible refine w_c ?_
      with_reducible refine k_seq ?_
      exact rest _
end PG

set_option linter.all false
set_option maxRecDepth 100000
set_option maxHeartbeats 4000000
/-! PG3: pick, names. -/
namespace PG
open PySem PySem.Spec L2 PL
theorem spec_pick {n : Nat} {st : Sto} {xs : List D} {Q : D → Sto → Prop} (h : FOk n st) (hne : xs ≠ []) (hl : xs.length < 1073741824) (q : ∀ x st', x ∈ xs → FOk n st' → Same n st st' → Q x st') : wp (m_law_pick [.ref n, .lst xs]) Q st := by
  refine w_run' [.val (.ref n), .val (.lst xs)] rfl ?_
  unfold s_law_pick
  subst_eqs
  refine ⟨rfl, spec_draw h (by cases xs with | nil => exact absurd rfl hne | cons _ _ => simp) (by omega) fun z st' z0 z1 f s => ?_⟩
  obtain ⟨x, hx, hm⟩ := atI_lt (xs := xs) z0 z1
  refine w_ixL hx ?_
  subst_eqs
  exact q x st' hm f s
theorem spec_pickT {n : Nat} {st : Sto} {xs : List D} {Q : D → Sto → Prop} (h : FOk n st) (hne : xs ≠ []) (hl : xs.length < 1073741824) (q : ∀ x st', x ∈ xs → FOk n st' → Same n st st' → Q x st') : wp (m_law_pick [.ref n, .tup xs]) Q st := by
  refine w_run' [.val (.ref n), .val (.tup xs)] rfl ?_
  unfold s_law_pick
  subst_eqs
  refine ⟨rfl, spec_draw h (by cases xs with | nil => exact absurd rfl hne | cons _ _ => simp) (by omega) fun z st' z0 z1 f s => ?_⟩
  obtain ⟨x, hx, hm⟩ := atI_lt (xs := xs) z0 z1
  refine w_ixT hx ?_
  subst_eqs
  exact q x st' hm f s
/-! ### names -/
def Sg (c : Nat) : Prop := 97 ≤ c ∧ c ≤ 122
def Lw (x : Str) : Prop := ∀ c ∈ x.cps.toList, Sg c
def Nm (x : Str) : Prop := 1 ≤ x.length ∧ x.length ≤ 8 ∧ Lw x
def NmD (d : D) : Prop := ∃ x, d = .str x ∧ Nm x
def abc : Str := "abcdefghijklmnopqrstuvwxyz"
theorem abc_len : abc.length = 26 := by decide
theorem abc_sg : ∀ c ∈ abc.cps.toList, Sg c := by
  unfold Sg; decide
theorem lw_ok {x : Str} (h : Lw x) : PyData.strOk x = true := by
  unfold PyData.strOk
  rw [Array.all_eq_true_iff_forall_mem]
  intro c hc
  have := h c (Array.mem_toList_iff.mpr hc)
  exact decide_eq_true (by have := this.2; omega)
theorem lw_app {x y : Str} (hx : Lw x) (hy : Lw y) : Lw (x ++ y) := by
  intro c hc
  have e : (x ++ y).cps.toList = x.cps.toList ++ y.cps.toList := by
    show (x.cps ++ y.cps).toList = _
    rw [Array.toList_append]
  rw [e] at hc
  rcases List.mem_append.mp hc with h | h
  · exact hx c h
  · exact hy c h
theorem len_app (x y : Str) : (x ++ y).length = x.length + y.length := by
  show (x.cps ++ y.cps).size = _
  rw [Array.size_append]; rfl
theorem one_len (c : Nat) : (⟨#[c]⟩ : Str).length = 1 := rfl
theorem lw_one {c : Nat} (h : Sg c) : Lw ⟨#[c]⟩ := by
  intro d hd
  have : d = c := by simpa using hd
  rw [this]; exact h
theorem nm_shp {x : Str} (h : Nm x) : Shp 0 (.str x) := shp_str (lw_ok h.2.2)
theorem nmd_shp {d : D} (h : NmD d) : Shp 0 d := by obtain ⟨x, rfl, hx⟩ := h; exact nm_shp hx
theorem small {n : Nat} (h : n ≤ 1000000) : n ≤ sizeLine := Nat.le_trans h (by decide)
theorem app_cps (x y : Str) : (x ++ y).cps.toList = x.cps.toList ++ y.cps.toList := by
  show (x.cps ++ y.cps).toList = _
  rw [Array.toList_append]
theorem lw_nil : Lw "" := by
  intro c hc
  have e : ("" : Str).cps.toList = [] := by decide
  rw [e] at hc
  exact absurd hc List.not_mem_nil
theorem lw_join {y : Str} (hy : Lw y) : ∀ {xs : List Str}, (∀ x ∈ xs, Lw x) → Lw (Str.join y xs)
  | [], _ => fun c hc => absurd hc (by simp [Str.join, Str.empty])
  | [x], h => h x List.mem_cons_self
  | x :: z :: r, h => lw_app (lw_app (h x List.mem_cons_self) hy) (lw_join hy fun w hw => h w (List.mem_cons_of_mem _ hw))
theorem len_join1 : ∀ {xs : List Str}, (∀ x ∈ xs, x.length = 1) → (Str.join "" xs).length = xs.length
  | [], _ => rfl
  | [x], h => h x List.mem_cons_self
  | x :: z :: r, h => by
    show (x ++ "" ++ Str.join "" (z :: r)).length = _
    rw [len_app, len_app, h x List.mem_cons_self, len_join1 fun w hw => h w (List.mem_cons_of_mem _ hw)]
    show 1 + 0 + (r.length + 1) = r.length + 1 + 1
    omega
def OneD (d : D) : Prop := ∃ c, d = .str ⟨#[c]⟩ ∧ Sg c
theorem ones : ∀ {ds : List D}, (∀ d ∈ ds, OneD d) → ∃ xs : List Str, strsD ds = some xs ∧ xs.length = ds.length ∧ ∀ x ∈ xs, x.length = 1 ∧ Lw x
  | [], _ => ⟨[], rfl, rfl, fun _ h => absurd h List.not_mem_nil⟩
  | d :: ds, h => by
    obtain ⟨c, rfl, hc⟩ := h d List.mem_cons_self
    obtain ⟨xs, e, hl, hx⟩ := ones fun z hz => h z (List.mem_cons_of_mem _ hz)
    refine ⟨_ :: xs, by unfold strsD; rw [e]; rfl, by simp [hl], fun x hx' => ?_⟩
    rcases List.mem_cons.mp hx' with e | e
    · rw [e]; exact ⟨rfl, lw_one hc⟩
    · exact hx x e
theorem ones_sum : ∀ {xs : List Str}, (∀ x ∈ xs, x.length = 1 ∧ Lw x) → (xs.map (·.length)).sum = xs.length
  | [], _ => rfl
  | x :: xs, h => by
    rw [List.map_cons, List.sum_cons, (h x List.mem_cons_self).1, ones_sum fun z hz => h z (List.mem_cons_of_mem _ hz), List.length_cons]
    omega
/-- a word of drawn signs -/
theorem spec_signs {i n : Nat} {ρ : En} {it : En → M (List D)} {st : Sto} {Q : D → Sto → Prop} (h0 : ρ[0]? = some (.val (.ref n))) (h2 : ρ[2]? = some (.val (.str abc))) (hi : i < ρ.length) (hi0 : i ≠ 0) (hi2 : i ≠ 2)
    (k : wp (it ρ) (fun ds s => ds.length ≤ 8 ∧ FOk n s ∧ ∀ x s', x.length = ds.length → Lw x → FOk n s' → Same n s s' → Q (.str x) s') st) :
    wp (eM1 joinM (eC (.str "")) (eL (eLc it (.nm i) [i] tTrue (e2 ixM (eVar 2) (eCall 2 m_law_draw (aCons (eVar 0) (aCons (eC (.int 26)) aNil)))))) ρ) Q st := by
  refine w_m1 (w_c (k_str ?_))
  refine w_eL (w_lc (wp_mono k fun ds s ⟨hl, hF, q⟩ => ?_))
  have hi' : i < (wipeE ρ [i]).length := by show i < (ρ.set i .no).length; rw [List.length_set]; exact hi
  refine lc_each hi' OneD (fun s' => FOk n s' ∧ Same n s s') ds s (fun d _ s1 ⟨f1, sm1⟩ => ?_) ⟨hF, Same.refl _ _⟩ fun out s' hlen hP ⟨f2, sm2⟩ => ?_
  · refine w_e2 ?_
    have g2 : ((wipeE ρ [i]).set i (Slot.val d))[2]? = some (.val (.str abc)) := by
      show ((ρ.set i .no).set i (.val d))[2]? = _
      rw [List.getElem?_set_ne hi2, List.getElem?_set_ne hi2]; exact h2
    have g0 : ((wipeE ρ [i]).set i (Slot.val d))[0]? = some (.val (.ref n)) := by
      show ((ρ.set i .no).set i (.val d))[0]? = _
      rw [List.getElem?_set_ne hi0, List.getElem?_set_ne hi0]; exact h0
    refine w_var g2 (w_call (w_aC (w_var g0 (w_aC (w_c (w_aN ⟨rfl, ?_⟩))))))
    refine spec_draw f1 (by decide) (by decide) fun z st' z0 z1 f s => ?_
    obtain ⟨c, hc, hm⟩ := atI_lt (xs := abc.cps.toList) z0 (by exact z1)
    exact w_ixS (by decide) hc ⟨⟨c, rfl, abc_sg c hm⟩, f, sm1.trans s⟩
  · obtain ⟨xs, e, hl2, hx⟩ := ones hP
    show wp ((opt (seqD (.lst out))).bind _) Q s'
    rw [wp_bind]
    show wp (opt (some out)) _ s'
    rw [wp_some, wp_bind, e, wp_some]
    rw [wp_guard]
    refine ⟨decide_eq_true ?_, ?_⟩
    · rw [ones_sum hx]
      show xs.length + xs.length * 0 ≤ 16777216
      omega
    · rw [wp_pure, TL.join_eq]
      exact q _ s' (by rw [len_join1 fun x h => (hx x h).1]; omega) (lw_join lw_nil fun x h => (hx x h).2) f2 sm2
end PG

set_option linter.all false
set_option maxRecDepth 100000
set_option maxHeartbeats 4000000
/-! PG4: the drawn names. -/
namespace PG
open PySem PySem.Spec L2 PL
theorem len_cps (x : Str) : x.length = x.cps.toList.length := by rw [Array.length_toList]; rfl
theorem cut_two (x : Str) {k : Int} (h0 : 0 ≤ k) (h1 : k ≤ x.length) : (cutS x none (some k)).length + (cutS x (some k) none).length = x.length ∧ (Lw x → Lw (cutS x none (some k)) ∧ Lw (cutS x (some k) none)) := by
  obtain ⟨j, rfl⟩ := Int.eq_ofNat_of_zero_le h0
  have hj : j ≤ x.cps.toList.length := by rw [← len_cps]; omega
  have e1 : (cutS x none (some (j : Int))).cps.toList = x.cps.toList.take j := by
    unfold cutS
    rw [HT.sIx_none, HT.sIx_nat, List.drop_zero, Nat.sub_zero, len_cps]
    show List.take (min j x.cps.toList.length) x.cps.toList = _
    rw [Nat.min_eq_left hj]
  have e2 : (cutS x (some (j : Int)) none).cps.toList = x.cps.toList.drop j := by
    unfold cutS
    rw [HT.sIx_none, HT.sIx_nat, len_cps]
    show List.take (x.cps.toList.length - min j x.cps.toList.length) (List.drop (min j x.cps.toList.length) x.cps.toList) = _
    rw [Nat.min_eq_left hj, List.take_of_length_le (by rw [List.length_drop]; exact Nat.le_refl _)]
  refine ⟨by rw [len_cps, len_cps, len_cps x, e1, e2, List.length_take, List.length_drop]; omega, fun hx => ⟨fun c hc => hx c ?_, fun c hc => hx c ?_⟩⟩
  · rw [e1] at hc; exact List.mem_of_mem_take hc
  · rw [e2] at hc; exact List.mem_of_mem_drop hc
def wordsL : List D := [.str "put", .str "take", .str "do", .str "party", .str "channel", .str "arrow", .str "queue", .str "bag", .str "call", .str "a", .str "ab", .str "abc", .str "z"]
theorem nm_dec {x : Str} (h : (decide (1 ≤ x.length) && decide (x.length ≤ 8) && x.cps.toList.all fun c => decide (97 ≤ c) && decide (c ≤ 122)) = true) : Nm x := by
  simp only [Bool.and_eq_true, decide_eq_true_eq, List.all_eq_true] at h
  exact ⟨h.1.1, h.1.2, fun c hc => h.2 c hc⟩
theorem words_nm : ∀ d ∈ wordsL, NmD d := by
  intro d hd
  unfold wordsL at hd
  simp only [List.mem_cons, List.not_mem_nil, or_false] at hd
  rcases hd with rfl | rfl | rfl | rfl | rfl | rfl | rfl | rfl | rfl | rfl | rfl | rfl | rfl <;> exact ⟨_, rfl, nm_dec (by decide)⟩
/-- a sign that no name in so short a row is -/
theorem some_sign {ds : List D} (h : ds.length < 26) : ∃ c rest, (abc.cps.toList.map charD).filter (fun d => !ds.any fun z => z.eqv d) = c :: rest ∧ NmD c := by
  cases e : (abc.cps.toList.map charD).filter (fun d => !ds.any fun z => z.eqv d) with
  | cons c rest =>
    refine ⟨c, rest, rfl, ?_⟩
    have hm : c ∈ (abc.cps.toList.map charD).filter (fun d => !ds.any fun z => z.eqv d) := by rw [e]; exact List.mem_cons_self
    obtain ⟨k, hk, rfl⟩ := List.mem_map.mp (List.mem_filter.mp hm).1
    exact ⟨⟨#[k]⟩, rfl, by show 1 ≤ 1; decide, by show 1 ≤ 8; decide, lw_one (abc_sg k hk)⟩
  | nil =>
    exfalso
    have all : ∀ k ∈ abc.cps.toList, ∃ z ∈ ds, z = .str ⟨#[k]⟩ := fun k hk => by
      have h1 := List.filter_eq_nil_iff.mp e (charD k) (List.mem_map_of_mem hk)
      have h2 : (ds.any fun z => z.eqv (charD k)) = true := by
        cases q : (ds.any fun z => z.eqv (charD k)) with
        | true => rfl
        | false => rw [q] at h1; exact absurd rfl h1
      obtain ⟨z, hz, hv⟩ := List.any_eq_true.mp h2
      refine ⟨z, hz, ?_⟩
      cases z with
      | str y =>
        have : (D.str y).eqv (.str ⟨#[k]⟩) = true := hv
        rw [eqv_ss] at this
        rw [eq_of_beq this]
      | _ => simp [D.eqv, D.py, PyData.eqv, charD] at hv
    let g : D → Nat := fun d => match d with
      | .str y => y.cps.toList.headD 0
      | _ => 0
    have hsub : abc.cps.toList ⊆ ds.map g := fun k hk => by
      obtain ⟨z, hz, rfl⟩ := all k hk
      exact List.mem_map.mpr ⟨_, hz, rfl⟩
    have := List.Nodup.length_le_of_subset (by decide : abc.cps.toList.Nodup) hsub
    rw [List.length_map] at this
    have h26 : abc.cps.toList.length = 26 := by decide
    omega
end PG

set_option linter.all false
set_option maxRecDepth 100000
set_option maxHeartbeats 4000000
/-! PG5: the drawn names. -/
namespace PG
open PySem PySem.Spec L2 PL
theorem list_shp {k : Nat} {ds : List D} (h : ∀ d ∈ ds, Shp k d) (hk : k + 1 ≤ 64 := by decide) : (D.lst ds).shp = true := (shp_lst h).shp hk
theorem it_abc : itD (.str abc) = some (abc.cps.toList.map charD) := by
  show (if abc.length ≤ sizeLine then some (abc.cps.toList.map charD) else none) = _
  rw [if_pos (by decide)]
theorem cat_nm {a b : Str} {c : Nat} (h : a.length + b.length ≤ 7) (ha : Lw a) (hb : Lw b) (hc : Sg c) : Nm (a ++ ⟨#[c]⟩ ++ b) := by
  refine ⟨?_, ?_, lw_app (lw_app ha (lw_one hc)) hb⟩
  · rw [len_app, len_app]; show 1 ≤ a.length + 1 + b.length; omega
  · rw [len_app, len_app]; show a.length + 1 + b.length ≤ 8; omega
theorem spec_names {n : Nat} {st : Sto} {many : Int} {Q : D → Sto → Prop} (h : FOk n st) (h0 : 0 ≤ many) (h1 : many ≤ 20) (q : ∀ xs st', (∀ x ∈ xs, NmD x) → xs.length = many.toNat → FOk n st' → Same n st st' → Q (.lst xs) st') : wp (m_law_names [.ref n, .int many]) Q st := by
  refine w_run' [.val (.ref n), .val (.int many), .no, .no, .no, .no, .no, .no, .no, .no, .no, .no, .no] rfl ?_
  unfold s_law_names
  subst_eqs
  refine ⟨by decide, ?_⟩
  subst_eqs
  refine ⟨rfl, spec_draw h (by decide) (by decide) fun way s1 _ _ f1 sm1 => ?_⟩
  subst_eqs
  refine ⟨rfl, spec_draw f1 (by decide) (by decide) fun size s2 sz0 sz1 f2 sm2 => ?_⟩
  refine k_seq (w_seq (w_set (by simp) (spec_signs rfl rfl (by simp) (by decide) (by decide) ?_)))
  subst_eqs
  refine ⟨_, rfl, w_range (by omega) (by omega) (small (by omega)) ⟨by simp; omega, f2, fun stem s3 hlen hlw f3 sm3 => ?_⟩⟩
  rw [List.length_map, List.length_range] at hlen
  subst_eqs
  refine ⟨rfl, spec_draw f3 (by omega) (by omega) fun cut s4 c0 c1 f4 sm4 => ?_⟩
  subst_eqs
  refine ⟨by decide, ?_⟩
  refine k_seq (w_seq (w_for ?_))
  subst_eqs
  refine ⟨_, rfl, w_range (by omega) (by omega) (small (by omega)) ?_⟩
  have sm04 := ((sm1.trans sm2).trans sm3).trans sm4
  refine for_each (fun j ρ s => ∃ x7 x10 x11 x12 found, ρ = [.val (.ref n), .val (.int many), .val (.str abc), .val (.lst wordsL), .val (.int way), .val (.int size), .val (.str stem), x7, .val (.int cut), .own found, x10, x11, x12] ∧ (∀ x ∈ found, NmD x) ∧ found.length = j ∧ FOk n s ∧ Same n st s) _ 0 _ _ ?_ ?_ ?_
  · rintro m d ρ s hd ⟨x7, x10, x11, x12, found, rfl, hfound, hlenf, fs, sms⟩
    have hm : m < 20 := by
      have := (List.getElem?_eq_some_iff.mp hd).1
      rw [List.length_map, List.length_range] at this
      omega
    rw [Nat.zero_add] at hlenf
    refine ⟨_, set_nm (by simp), ?_⟩
    -- behind the three ways: a name stands in slot 10
    have mid : ∀ (x : Str) (s' : Sto) (y7 y11 y12 : Slot), Nm x → FOk n s' → Same n st s' → wp (sSeq (sIf (tBl (e2 inM (eVar 10) (eLook 9))) (sSet 10 (e2 ixM (eL (eLc (iSeq (eVar 2)) (.nm 12) [12] (tBl (e2 notInM (eVar 12) (eLook 9))) (eVar 12))) (eC (.int 0)))) sNil) (sApp 9 (eVar 10)) [.val (.ref n), .val (.int many), .val (.str abc), .val (.lst wordsL), .val (.int way), .val (.int size), .val (.str stem), y7, .val (.int cut), .own found, .val (.str x), y11, y12])
        (fun r s' => r.1 = .nx ∧ ∃ x7 x10 x11 x12 found, r.2 = [.val (.ref n), .val (.int many), .val (.str abc), .val (.lst wordsL), .val (.int way), .val (.int size), .val (.str stem), x7, .val (.int cut), .own found, x10, x11, x12] ∧ (∀ x ∈ found, NmD x) ∧ found.length = 0 + m + 1 ∧ FOk n s' ∧ Same n st s') s' := by
      intro x s' y7 y11 y12 hx fs' sms'
      have shf : (D.lst found).shp = true := list_shp fun d hd => nmd_shp (hfound d hd)
      have fin : ∀ (d : D), NmD d → d ∈ [d] → ∀ y ∈ found ++ [d], NmD y := fun d hd _ y hy => by
        rcases List.mem_append.mp hy with h | h
        · exact hfound y h
        · rw [List.mem_singleton.mp h]; exact hd
      subst_eqs
      refine w_in rfl (nm_shp hx).shp shf ?_
      subst_eqs
      refine k_if (fun _ => ?_) fun _ => ?_
      · refine w_set (by simp) (w_e2 (w_eL (w_lc ?_)))
        subst_eqs
        refine ⟨_, it_abc, ?_⟩
        refine lc_filter (by simp [wipeE]) (fun d => !found.any fun z => z.eqv d) _ _ (fun d hd T k => ?_) ?_
        · obtain ⟨k', hk', rfl⟩ := List.mem_map.mp hd
          refine w_tBl (w_e2 (w_var rfl (w_look rfl (w_notIn rfl ((nm_shp (x := ⟨#[k']⟩) ⟨by show 1 ≤ 1; decide, by show 1 ≤ 8; decide, lw_one (abc_sg k' hk')⟩).shp) shf (k_bl k)))))
        · obtain ⟨c, rest, e, hc⟩ := some_sign (ds := found) (by omega)
          rw [e]
          subst_eqs
          refine w_ixL (d := c) (atI_nat (j := 0) rfl) ?_
          subst_eqs
          refine ⟨small (by omega), rfl, _, _, _, _, _, rfl, fin c hc (List.mem_singleton.mpr rfl), by simp [hlenf], fs', sms'⟩
      · subst_eqs
        refine ⟨small (by omega), rfl, _, _, _, _, _, rfl, fin _ ⟨x, rfl, hx⟩ (List.mem_singleton.mpr rfl), by simp [hlenf], fs', sms'⟩
    have two : ∀ (x : Str) (s' : Sto) (y7 y11 y12 : Slot), Nm x → FOk n s' → Same n st s' → wp ((sSeq (sIf (tBl (e2 eqM (eVar 4) (eC (.int 2)))) (sSet 10 (eM1 joinM (eC (.str "")) (eL (eLc (iRange1 (aCons (e2 addM (eC (.int 1)) (eCall 2 m_law_draw (aCons (eVar 0) (aCons (eC (.int 8)) (aNil))))) (aNil))) (.nm 11) [11] (tTrue) (e2 ixM (eVar 2) (eCall 2 m_law_draw (aCons (eVar 0) (aCons (eC (.int 26)) (aNil))))))))) (sNil)) (sSeq (sIf (tBl (e2 inM (eVar 10) (eLook 9))) (sSet 10 (e2 ixM (eL (eLc (iSeq (eVar 2)) (.nm 12) [12] (tBl (e2 notInM (eVar 12) (eLook 9))) (eVar 12))) (eC (.int 0)))) sNil) (sApp 9 (eVar 10)))) [.val (.ref n), .val (.int many), .val (.str abc), .val (.lst wordsL), .val (.int way), .val (.int size), .val (.str stem), y7, .val (.int cut), .own found, .val (.str x), y11, y12]) (fun r s' => r.1 = .nx ∧ ∃ x7 x10 x11 x12 found, r.2 = [.val (.ref n), .val (.int many), .val (.str abc), .val (.lst wordsL), .val (.int way), .val (.int size), .val (.str stem), x7, .val (.int cut), .own found, x10, x11, x12] ∧ (∀ x ∈ found, NmD x) ∧ found.length = 0 + m + 1 ∧ FOk n s' ∧ Same n st s') s' := by
      intro x s' y7 y11 y12 hx fs' sms'
      subst_eqs
      refine w_eq shp_int.shp shp_int.shp ?_
      subst_eqs
      refine k_if (fun _ => ?_) fun _ => ?_
      · refine w_set (by simp) (spec_signs rfl rfl (by simp) (by decide) (by decide) ?_)
        subst_eqs
        refine ⟨rfl, spec_draw fs' (by decide) (by decide) fun z t z0 z1 ft smt => ?_⟩
        subst_eqs
        refine ⟨_, rfl, w_range (by omega) (by omega) (small (by omega)) ⟨by simp; omega, ft, fun y t2 hl hw ft2 smt2 => ?_⟩⟩
        rw [List.length_map, List.length_range] at hl
        exact mid y t2 _ _ _ ⟨by omega, by omega, hw⟩ ft2 ((sms'.trans smt).trans smt2)
      · refine w_nil ?_
        exact mid x s' _ _ _ hx fs' sms'
    refine w_seq (w_set (by simp) ?_)
    subst_eqs
    refine w_slS (small (by omega)) ?_
    subst_eqs
    refine ⟨rfl, spec_draw fs (by decide) (by decide) fun z t z0 z1 ft smt => ?_⟩
    obtain ⟨c, hc, hcm⟩ := atI_lt (xs := abc.cps.toList) z0 (by exact z1)
    refine w_ixS (by decide) hc ?_
    obtain ⟨k1, k2⟩ := cut_two stem c0 (by omega)
    obtain ⟨k3, k4⟩ := k2 hlw
    refine w_addS (small (by rw [one_len]; omega)) ?_
    subst_eqs
    refine w_slS (small (by omega)) ?_
    refine w_addS (small (by rw [len_app, one_len]; omega)) ?_
    have hnm : Nm (cutS stem none (some cut) ++ ⟨#[c]⟩ ++ cutS stem (some cut) none) := cat_nm (by omega) k3 k4 (abc_sg c hcm)
    have smt' := sms.trans smt
    refine k_seq (w_seq (w_if ?_))
    subst_eqs
    refine w_eq shp_int.shp shp_int.shp ?_
    refine k_bl (k_if (fun _ => ?_) fun _ => ?_)
    · refine w_set (by simp) (w_call (w_aC (w_var rfl (w_aC (w_var rfl (w_aN ⟨rfl, spec_pick ft (by decide) (by decide) fun x t2 hx ft2 smt2 => ?_⟩))))))
      obtain ⟨y, rfl, hy⟩ := words_nm x hx
      exact two y t2 _ _ _ hy ft2 (smt'.trans smt2)
    · refine w_nil ?_
      exact two _ t _ _ _ hnm ft smt'
  · exact ⟨_, _, _, _, [], rfl, fun _ h => absurd h List.not_mem_nil, rfl, f4, sm04⟩
  · rintro ρ s ⟨x7, x10, x11, x12, found, rfl, hfound, hlenf, fs, sms⟩
    subst_eqs
    rw [List.length_map, List.length_range, Nat.zero_add] at hlenf
    exact q found s hfound hlenf fs sms
end PG

set_option linter.all false
set_option maxRecDepth 100000
set_option maxHeartbeats 4000000
/-! PG6: the feed, the spots. -/
namespace PG
open PySem PySem.Spec L2 PL
section
variable {R : D → Sto → Prop} {A : List D → Sto → Prop} {st : Sto} {ρ : En} {f : En → M D} {fs : List (En → M D)} {ks : List Str}
theorem w_dict (k : wp (aL fs ρ) (fun ds s => R (.ref s.length) (s ++ [.dict (putAll [] ((ks.map Sum.inr).zip ds))])) st) : wp (eDict ks fs ρ) R st := by
  unfold eDict; rw [wp_bind]; simp only [wp_newOb]; exact k
theorem w_aLn (k : A [] st) : wp (aL [] ρ) A st := ⟨k⟩
theorem w_aLc (k : wp (f ρ) (fun x s => wp (aL fs ρ) (fun xs s => A (x :: xs) s) s) st) : wp (aL (f :: fs) ρ) A st := by
  unfold aL; rw [wp_bind]
  refine wp_mono k fun x s k => ?_
  rw [wp_bind]; simp only [wp_pure]; exact k
end
theorem cut_mem {xs : List D} {l u : Option Int} {d : D} (h : d ∈ cutD xs l u) : d ∈ xs := List.mem_of_mem_drop (List.mem_of_mem_take h)
theorem cut_len (xs : List D) (l u : Option Int) : (cutD xs l u).length ≤ xs.length := by
  unfold cutD
  rw [List.length_take, List.length_drop]
  omega
theorem cut_ne {xs : List D} {a b : Int} (h0 : 0 ≤ a) (h1 : a < b) (h2 : a < xs.length) : cutD xs (some a) (some b) ≠ [] := by
  obtain ⟨i, rfl⟩ := Int.eq_ofNat_of_zero_le h0
  obtain ⟨j, rfl⟩ := Int.eq_ofNat_of_zero_le (a := b) (by omega)
  intro e
  have := congrArg List.length e
  unfold cutD at this
  rw [HT.sIx_nat, HT.sIx_nat, List.length_take, List.length_drop] at this
  simp only [List.length_nil] at this
  omega
theorem spec_feedS {ns : List Int} {st : Sto} {Q : D → Sto → Prop} (h : ns.length ≤ 63) (q : ∀ o, FOk st.length (st ++ [o]) → Q (.ref st.length) (st ++ [o])) : wp (m_law_feed [.frz (ns.map D.int)]) Q st := by
  refine w_run' [.val (.frz (ns.map D.int)), .no] rfl ?_
  unfold s_law_feed
  refine w_ret (w_dict (w_aLc (w_eL (w_lc ?_))))
  subst_eqs
  refine ⟨_, rfl, ?_⟩
  refine lc_map (by simp [wipeE]) (fun d => d) _ _ (fun d hd Q k => ?_) ?_
  · obtain ⟨i, _, rfl⟩ := List.mem_map.mp (cut_mem hd)
    refine w_e1 (w_var rfl ?_)
    exact w_intI k
  · refine w_aLc (w_c (w_aLc (w_c (w_aLc (w_c (w_aLn ?_))))))
    refine k_run ?_
    have e : (cutD (ns.map D.int) none (some 63)).map (fun d => d) = ((ns.take 63).map D.int) := by
      rw [List.map_id']
      unfold cutD
      rw [HT.sIx_none, List.drop_zero, Nat.sub_zero]
      show List.take (HT.sIx (ns.map D.int).length _ (some ((63 : Nat) : Int))) _ = _
      rw [HT.sIx_nat, List.length_map, Nat.min_eq_right h, List.map_take, List.take_of_length_le (by rw [List.length_map]; exact Nat.le_refl _), List.take_of_length_le (by rw [List.length_map]; exact h)]
    rw [e]
    exact q _ ⟨ns.take 63, 0, 0, 0, by rw [List.getElem?_concat_length]; rfl, by rw [List.length_take]; omega, by decide, by decide⟩
theorem spec_feed {ns : List Int} {st : Sto} {Q : D → Sto → Prop} (h : ns.length ≤ 63) (q : ∀ st', FOk st.length st' → st'.length = st.length + 1 → Q (.ref st.length) st') : wp (m_law_feed [.frz (ns.map D.int)]) Q st := spec_feedS h fun o f => q _ f (by simp)
/-! ### spots -/
def Nu (i : Int) : Prop := 0 ≤ i ∧ i < 1000000000000000000000000000000000000000000000000000000000000
def NuD (d : D) : Prop := ∃ i, d = .int i ∧ Nu i
theorem nu_of {i : Int} (h0 : 0 ≤ i) (h1 : i ≤ 1000000) : NuD (.int i) := ⟨i, rfl, h0, by omega⟩
theorem spec_spots {n : Nat} {st : Sto} {Q : D → Sto → Prop} (h : FOk n st) (q : ∀ xs st', (∀ x ∈ xs, NuD x) → xs ≠ [] → xs.length ≤ 16 → FOk n st' → Same n st st' → Q (.lst xs) st') : wp (m_law_spots [.ref n]) Q st := by
  refine w_run' [.val (.ref n), .no, .no, .no] rfl ?_
  unfold s_law_spots
  subst_eqs
  refine ⟨rfl, spec_draw h (by decide) (by decide) fun z1 s1 a1 b1 f1 sm1 => ?_⟩
  subst_eqs
  refine w_int2 (decide_eq_true ⟨by decide, by decide, by decide⟩) ?_
  refine w_int2 (decide_eq_true (.inl (by omega))) ?_
  subst_eqs
  refine ⟨rfl, spec_draw f1 (by decide) (by decide) fun z2 s2 a2 b2 f2 sm2 => ?_⟩
  subst_eqs
  refine ⟨rfl, spec_draw f2 (by decide) (by decide) fun z3 s3 a3 b3 f3 sm3 => ?_⟩
  subst_eqs
  refine ⟨rfl, spec_draw f3 (by decide) (by decide) fun z4 s4 a4 b4 f4 sm4 => ?_⟩
  subst_eqs
  refine ⟨rfl, spec_draw f4 (by decide) (by decide) fun z5 s5 a5 b5 f5 sm5 => ?_⟩
  subst_eqs
  refine ⟨by show 8 ≤ sizeLine; decide, ?_⟩
  subst_eqs
  refine ⟨rfl, spec_draw f5 (by decide) (by decide) fun z6 s6 a6 b6 f6 sm6 => ?_⟩
  subst_eqs
  refine w_addL (by show 16 ≤ sizeLine; decide) ?_
  subst_eqs
  refine ⟨rfl, spec_draw f6 (by decide) (by decide) fun z7 s7 a7 b7 f7 sm7 => ?_⟩
  subst_eqs
  have big : NuD (.int (z1 * 10 ^ Int.toNat 54 + z2)) := by
    have e : (10 : Int) ^ Int.toNat 54 = 1000000000000000000000000000000000000000000000000000000 := by decide
    rw [e]
    exact ⟨_, rfl, by omega, by omega⟩
  refine q _ s7 (fun x hx => ?_) (cut_ne a6 (by omega) (by show z6 < 16; omega)) (Nat.le_trans (cut_len _ _ _) (by show 16 ≤ 16; decide)) f7 ((((((sm1.trans sm2).trans sm3).trans sm4).trans sm5).trans sm6).trans sm7)
  have hx := cut_mem hx
  have h8 : ∀ y ∈ [D.int 0, .int 1, .int 2, .int (9 + z3), .int 3, .int (z1 * 10 ^ Int.toNat 54 + z2), .int z4, .int (98 + z5)], NuD y := by
    intro y hy
    simp only [List.mem_cons, List.not_mem_nil, or_false] at hy
    rcases hy with rfl | rfl | rfl | rfl | rfl | rfl | rfl | rfl
    · exact nu_of (by decide) (by decide)
    · exact nu_of (by decide) (by decide)
    · exact nu_of (by decide) (by decide)
    · exact nu_of (by omega) (by omega)
    · exact nu_of (by decide) (by decide)
    · exact big
    · exact nu_of a4 (by omega)
    · exact nu_of (by omega) (by omega)
  rcases List.mem_append.mp hx with h | h <;> exact h8 x h
end PG

set_option linter.all false
set_option maxRecDepth 100000
set_option maxHeartbeats 4000000
/-! PG7: doings, a party. -/
namespace PG
open PySem PySem.Spec L2 PL
def Do (d : D) : Prop := (∃ a, NmD a ∧ d = .tup [.str "do", a]) ∨ ∃ w a b, (w = ("put" : Str) ∨ w = ("take" : Str)) ∧ NmD a ∧ NmD b ∧ d = .tup [.str w, a, b]
def Ch (d : D) : Prop := ∃ a b c f, NmD a ∧ NmD b ∧ NmD c ∧ (f = ("queue" : Str) ∨ f = ("bag" : Str) ∨ f = ("call" : Str)) ∧ d = .tup [a, b, c, .str f]
def Ar (d : D) : Prop := ∃ p g l, NuD p ∧ Do g ∧ NuD l ∧ d = .tup [p, g, l]
theorem nu_shp {d : D} (h : NuD d) : Shp 0 d := by obtain ⟨i, rfl, _⟩ := h; exact shp_int
theorem do_shp {d : D} (h : Do d) : Shp 1 d := by
  rcases h with ⟨a, ha, rfl⟩ | ⟨w, a, b, hw, ha, hb, rfl⟩
  · refine shp_tup fun x hx => ?_
    simp only [List.mem_cons, List.not_mem_nil, or_false] at hx
    rcases hx with rfl | rfl
    · exact shp_str (by decide +kernel)
    · exact nmd_shp ha
  · refine shp_tup fun x hx => ?_
    simp only [List.mem_cons, List.not_mem_nil, or_false] at hx
    rcases hx with rfl | rfl | rfl
    · rcases hw with rfl | rfl <;> exact shp_str (by decide +kernel)
    · exact nmd_shp ha
    · exact nmd_shp hb
theorem ar_shp {d : D} (h : Ar d) : Shp 2 d := by
  obtain ⟨p, g, l, hp, hg, hl, rfl⟩ := h
  refine shp_tup fun x hx => ?_
  simp only [List.mem_cons, List.not_mem_nil, or_false] at hx
  rcases hx with rfl | rfl | rfl
  · exact (nu_shp hp).mono
  · exact do_shp hg
  · exact (nu_shp hl).mono
theorem two_shp {a b : D} (ha : NmD a) (hb : NmD b) : (D.tup [a, b]).shp = true := (shp_tup (k := 0) fun x hx => by
  simp only [List.mem_cons, List.not_mem_nil, or_false] at hx
  rcases hx with rfl | rfl
  · exact nmd_shp ha
  · exact nmd_shp hb).shp
theorem spec_doings {st : Sto} {name : D} {cs ls : List D} {Q : D → Sto → Prop} (hn : NmD name) (hc : ∀ c ∈ cs, Ch c) (hcl : cs.length ≤ 20) (hl : ∀ c ∈ ls, NmD c) (h2 : 2 ≤ ls.length) (h8 : ls.length ≤ 20)
    (q : ∀ xs, (∀ x ∈ xs, Do x) → xs ≠ [] → xs.length ≤ 402 → Q (.lst xs) st) : wp (m_law_doings [name, .lst cs, .lst ls]) Q st := by
  refine w_run' [.val name, .val (.lst cs), .val (.lst ls), .no, .no, .no, .no, .no, .no] rfl ?_
  unfold s_law_doings
  obtain ⟨a, ha, hma⟩ := atI_lt (xs := ls) (i := 0) (by decide) (by omega)
  obtain ⟨b, hb, hmb⟩ := atI_lt (xs := ls) (i := 1) (by decide) (by omega)
  subst_eqs
  refine w_ixL ha ?_
  subst_eqs
  refine ⟨by show 2 ≤ sizeLine; decide, ?_⟩
  subst_eqs
  refine w_ixL hb ?_
  subst_eqs
  refine ⟨by show 2 ≤ sizeLine; decide, ?_⟩
  subst_eqs
  refine ⟨by show 2 ≤ sizeLine; decide, ?_⟩
  subst_eqs
  refine ⟨_, rfl, ?_⟩
  refine for_each (fun j ρ s => ∃ x4 x5 x6 x7 x8 out, ρ = [.val name, .val (.lst cs), .val (.lst ls), .own out, x4, x5, x6, x7, x8] ∧ (∀ x ∈ out, Do x) ∧ out ≠ [] ∧ out.length ≤ 2 + 20 * j ∧ s = st) _ 0 _ _ ?_ ?_ ?_
  · rintro m d ρ s hd ⟨x4, x5, x6, x7, x8, out, rfl, hout, hne, hlen, rfl⟩
    have hm := (List.getElem?_eq_some_iff.mp hd).1
    obtain ⟨c1, c2, c3, fo, n1, n2, n3, hfo, rfl⟩ := hc d (List.mem_of_getElem? hd)
    refine ⟨[.val name, .val (.lst cs), .val (.lst ls), .own out, .val c1, .val c2, .val c3, .val (.str fo), x8], by simp [Pt.set, setAll], ?_⟩
    subst_eqs
    refine ⟨by show 2 ≤ sizeLine; decide, ?_⟩
    refine w_in rfl (nmd_shp hn).shp (two_shp n2 n3) ?_
    subst_eqs
    refine k_if (fun _ => ?_) fun _ => ?_
    · refine w_ext rfl (w_eL (w_lc ?_))
      subst_eqs
      refine ⟨_, rfl, ?_⟩
      refine lc_map (by simp [wipeE]) (fun d => .tup [.str (if name.eqv c2 = true then "put" else "take"), c1, d]) _ _ (fun d hd Q k => ?_) ?_
      · subst_eqs
        refine w_eq (nmd_shp hn).shp (nmd_shp n2).shp ?_
        subst_eqs
        refine k_if (fun e => ?_) fun e => ?_
        · subst_eqs
          refine ⟨by show 3 ≤ sizeLine; decide, ?_⟩
          rw [if_pos e] at k
          exact k
        · subst_eqs
          refine ⟨by show 3 ≤ sizeLine; decide, ?_⟩
          rw [if_neg (by rw [e]; exact Bool.false_ne_true)] at k
          exact k
      · refine ⟨_, rfl, small (by rw [List.length_map]; omega), rfl, _, _, _, _, _, _, rfl, fun x hx => ?_, by simp [hne], by rw [List.length_append, List.length_map]; omega, rfl⟩
        rcases List.mem_append.mp hx with h | h
        · exact hout x h
        · obtain ⟨y, hy, rfl⟩ := List.mem_map.mp h
          exact .inr ⟨_, c1, y, by split <;> simp, n1, hl y hy, rfl⟩
    · subst_eqs
      exact ⟨rfl, _, _, _, _, _, _, rfl, hout, hne, by omega, rfl⟩
  · refine ⟨_, _, _, _, _, _, rfl, fun x hx => ?_, by simp, by simp, rfl⟩
    simp only [List.mem_cons, List.not_mem_nil, or_false] at hx
    rcases hx with rfl | rfl
    · exact .inl ⟨a, hl a hma, rfl⟩
    · exact .inl ⟨b, hl b hmb, rfl⟩
  · rintro ρ s ⟨x4, x5, x6, x7, x8, out, rfl, hout, hne, hlen, rfl⟩
    subst_eqs
    exact q out hout hne (by rw [Nat.zero_add] at hlen; omega)
end PG

set_option linter.all false
set_option maxRecDepth 100000
set_option maxHeartbeats 4000000
/-! PG8: a party. -/
namespace PG
open PySem PySem.Spec L2 PL
def Pa (d : D) : Prop := ∃ a es as, NmD a ∧ List.Pairwise (· < ·) es ∧ (∀ e ∈ es, Nu e) ∧ es.length ≤ 8 ∧ (∀ x ∈ as, Ar x) ∧ as.length ≤ 8 ∧ d = .tup [a, .tup (es.map D.int), .tup as]
theorem nus : ∀ {ds : List D}, (∀ d ∈ ds, NuD d) → ∃ ns : List Int, intsD ds = some ns ∧ (∀ i ∈ ns, Nu i) ∧ ns.length = ds.length
  | [], _ => ⟨[], rfl, fun _ h => absurd h List.not_mem_nil, rfl⟩
  | d :: ds, h => by
    obtain ⟨i, rfl, hi⟩ := h d List.mem_cons_self
    obtain ⟨ns, e, hn, hl⟩ := nus fun z hz => h z (List.mem_cons_of_mem _ hz)
    refine ⟨i :: ns, by unfold intsD; rw [e]; rfl, fun x hx => ?_, by simp [hl]⟩
    rcases List.mem_cons.mp hx with e | e
    · rw [e]; exact hi
    · exact hn x e
theorem ins_len (x : Int) : ∀ l : List Int, (insU x l).length ≤ l.length + 1
  | [] => by simp [insU]
  | y :: l => by
    unfold insU
    split
    · simp
    · split
      · simp
      · have := ins_len x l
        simp only [List.length_cons]; omega
theorem uniq_len : ∀ l : List Int, (uniqI l).length ≤ l.length
  | [] => by simp [uniqI]
  | x :: l => by
    have h1 := uniq_len l
    have h2 := ins_len x (uniqI l)
    show (insU x (uniqI l)).length ≤ _
    rw [List.length_cons]; omega
theorem spec_party {n : Nat} {st : Sto} {name : D} {ds ss : List D} {Q : D → Sto → Prop} (h : FOk n st) (hn : NmD name) (hd : ∀ c ∈ ds, Do c) (hdn : ds ≠ []) (hdl : ds.length ≤ 402) (hs : ∀ c ∈ ss, NuD c) (hsn : ss ≠ []) (hsl : ss.length ≤ 16)
    (q : ∀ x st', Pa x → (∃ es as, x = .tup [name, .tup es, .tup as]) → FOk n st' → Same n st st' → Q x st') : wp (m_law_party [.ref n, name, .lst ds, .lst ss]) Q st := by
  refine w_run' [.val (.ref n), .val name, .val (.lst ds), .val (.lst ss), .no, .no, .no, .no] rfl ?_
  unfold s_law_party
  subst_eqs
  refine ⟨by decide, ?_⟩
  subst_eqs
  refine ⟨rfl, spec_draw h (by decide) (by decide) fun z s1 a1 b1 f1 sm1 => ?_⟩
  refine ⟨_, rfl, w_range (by omega) (by omega) (small (by omega)) ?_⟩
  refine for_each (fun j ρ s => ∃ x5 x6 x7 out, ρ = [.val (.ref n), .val name, .val (.lst ds), .val (.lst ss), .own out, x5, x6, x7] ∧ (∀ x ∈ out, Ar x) ∧ out.length ≤ j ∧ FOk n s ∧ Same n st s) _ 0 _ _ ?_ ?_ ?_
  · rintro m d ρ s hm ⟨x5, x6, x7, out, rfl, hout, hlen, fs, sms⟩
    have hm := (List.getElem?_eq_some_iff.mp hm).1
    rw [List.length_map, List.length_range] at hm
    refine ⟨_, set_nm (by simp), ?_⟩
    subst_eqs
    refine ⟨rfl, spec_pick fs hsn (by omega) fun p t1 hp g1 u1 => ?_⟩
    subst_eqs
    refine ⟨rfl, spec_pick g1 hdn (by omega) fun g t2 hg g2 u2 => ?_⟩
    subst_eqs
    refine ⟨rfl, spec_pick g2 hsn (by omega) fun l t3 hl g3 u3 => ?_⟩
    subst_eqs
    refine ⟨by show 3 ≤ sizeLine; decide, ?_⟩
    have har : Ar (.tup [p, g, l]) := ⟨p, g, l, hs p hp, hd g hg, hs l hl, rfl⟩
    have sm' := ((sms.trans u1).trans u2).trans u3
    subst_eqs
    refine w_notIn rfl (ar_shp har).shp (list_shp fun x hx => ar_shp (hout x hx)) ?_
    subst_eqs
    refine k_if (fun _ => ?_) fun _ => ?_
    · subst_eqs
      refine ⟨small (by omega), rfl, _, _, _, _, rfl, fun x hx => ?_, by rw [List.length_append]; simp; omega, g3, sm'⟩
      rcases List.mem_append.mp hx with h | h
      · exact hout x h
      · rw [List.mem_singleton.mp h]; exact har
    · subst_eqs
      exact ⟨rfl, _, _, _, _, rfl, hout, by omega, g3, sm'⟩
  · exact ⟨_, _, _, [], rfl, fun _ h => absurd h List.not_mem_nil, Nat.le_refl _, f1, sm1⟩
  · rintro ρ s ⟨x5, x6, x7, out, rfl, hout, hlen, fs, sms⟩
    rw [List.length_map, List.length_range] at hlen
    refine k_seq (w_seq (w_set (by simp) (w_e1 (w_eL (w_lc ?_)))))
    subst_eqs
    refine ⟨rfl, spec_draw fs (by decide) (by decide) fun z2 s2 a2 b2 f2 sm2 => ?_⟩
    refine ⟨_, rfl, w_range (by omega) (by omega) (small (by omega)) ?_⟩
    refine lc_each (by simp [wipeE]) NuD (fun s' => FOk n s' ∧ Same n s2 s') _ _ (fun d _ s3 ⟨f3, sm3⟩ => ?_) ⟨f2, Same.refl _ _⟩ fun es s4 hel hes ⟨f4, sm4⟩ => ?_
    · subst_eqs
      refine ⟨rfl, spec_pick f3 hsn (by omega) fun p t1 hp g1 u1 => ⟨hs p hp, g1, sm3.trans u1⟩⟩
    · rw [List.length_map, List.length_range] at hel
      obtain ⟨ns, en, hns, hnl⟩ := nus hes
      show wp ((opt (intsD es)).bind fun ns => guardM (decide (es.length < 64)) (M.pure (D.lst ((uniqI ns).map D.int)))) _ s4
      rw [wp_bind, en, wp_some, wp_guard]
      refine ⟨decide_eq_true (by omega), ?_⟩
      rw [wp_pure]
      subst_eqs
      refine ⟨by show 3 ≤ sizeLine; decide, ?_⟩
      subst_eqs
      exact q _ s4 ⟨name, uniqI ns, out, hn, pair_uniqI ns, fun e he => hns e ((mem_uniqI e ns).mp he), by have := uniq_len ns; omega, hout, by omega, rfl⟩ ⟨_, _, rfl⟩ f4 ((sms.trans sm2).trans sm4)
end PG

set_option linter.all false
set_option maxRecDepth 100000
set_option maxHeartbeats 4000000
/-! PG9: a drawn program. -/
namespace PG
open PySem PySem.Spec L2 PL
def Pr (d : D) : Prop := ∃ ps cs, (∀ p ∈ ps, Pa p) ∧ ps.length ≤ 4 ∧ (∀ c ∈ cs, Ch c) ∧ cs.length ≤ 20 ∧ d = .tup [.tup ps, .tup cs]
theorem nms : ∀ {ds : List D}, (∀ d ∈ ds, NmD d) → ∃ xs : List Str, strsD ds = some xs ∧ (∀ x ∈ xs, Nm x) ∧ xs.length = ds.length
  | [], _ => ⟨[], rfl, fun _ h => absurd h List.not_mem_nil, rfl⟩
  | d :: ds, h => by
    obtain ⟨i, rfl, hi⟩ := h d List.mem_cons_self
    obtain ⟨ns, e, hn, hl⟩ := nms fun z hz => h z (List.mem_cons_of_mem _ hz)
    refine ⟨i :: ns, by unfold strsD; rw [e]; rfl, fun x hx => ?_, by simp [hl]⟩
    rcases List.mem_cons.mp hx with e | e
    · rw [e]; exact hi
    · exact hn x e
theorem w_sortedN {xs : List D} {R : D → Sto → Prop} {st : Sto} (h : ∀ x ∈ xs, NmD x) (hl : xs.length < 64) (k : ∀ ys, (∀ y ∈ ys, NmD y) → ys.length = xs.length → R (.lst ys) st) : wp (sortedM (.lst xs)) R st := by
  show wp (guardM (decide (xs.length < 64)) _) R st
  rw [wp_guard]
  refine ⟨decide_eq_true hl, ?_⟩
  cases xs with
  | nil =>
    have e : sortI [] = [] := by simp [sortI]
    show wp (M.pure (D.lst ((sortI []).map D.int))) R st
    rw [wp_pure, e]
    exact k [] (fun _ h => absurd h List.not_mem_nil) rfl
  | cons x r =>
    obtain ⟨y, rfl, hy⟩ := h x List.mem_cons_self
    obtain ⟨ss, e, hss, hsl⟩ := nms h
    show wp ((opt (strsD (.str y :: r))).bind fun xs => M.pure (D.lst ((sortS xs).map D.str))) R st
    rw [wp_bind, e, wp_some, wp_pure]
    refine k _ (fun z hz => ?_) ?_
    · obtain ⟨w, hw, rfl⟩ := List.mem_map.mp hz
      exact ⟨w, rfl, hss w ((List.mergeSort_perm ss leS).mem_iff.mp hw)⟩
    · rw [List.length_map, ← hsl]
      exact (List.mergeSort_perm ss leS).length_eq
theorem spec_built {n : Nat} {st : Sto} {Q : D → Sto → Prop} (h : FOk n st) (q : ∀ x st', Pr x → FOk n st' → Same n st st' → Q x st') : wp (m_law_built [.ref n]) Q st := by
  refine w_run' [.val (.ref n), .no, .no, .no, .no, .no, .no, .no, .no, .no, .no] rfl ?_
  unfold s_law_built
  subst_eqs
  refine ⟨by show 8 ≤ sizeLine; decide, ?_⟩
  subst_eqs
  refine ⟨rfl, spec_draw h (by decide) (by decide) fun z s1 a1 b1 f1 sm1 => ?_⟩
  obtain ⟨dm, hdm, hdmem⟩ := atI_lt (xs := [D.int 3, .int 2, .int 4, .int 2, .int 3, .int 1, .int 0, .int 2]) a1 b1
  refine w_ixL hdm ?_
  obtain ⟨many, rfl, m0, m1⟩ : ∃ i : Int, dm = .int i ∧ 0 ≤ i ∧ i ≤ 4 := by
    simp only [List.mem_cons, List.not_mem_nil, or_false] at hdmem
    rcases hdmem with rfl | rfl | rfl | rfl | rfl | rfl | rfl | rfl <;> exact ⟨_, rfl, by decide, by decide⟩
  subst_eqs
  refine ⟨rfl, spec_names f1 m0 (by omega) fun fk s2 hfk hfl f2 sm2 => ?_⟩
  refine w_sortedN hfk (by omega) fun folk hfolk hfolkl => ?_
  subst_eqs
  refine ⟨rfl, spec_names f2 (by decide) (by decide) fun ways s3 hw hwl f3 sm3 => ?_⟩
  subst_eqs
  refine ⟨rfl, spec_names f3 (by decide) (by decide) fun lets s4 hle hlel f4 sm4 => ?_⟩
  subst_eqs
  refine ⟨rfl, spec_spots f4 fun spots s5 hsp hspn hspl f5 sm5 => ?_⟩
  subst_eqs
  refine ⟨by show 3 ≤ sizeLine; decide, [.val (.ref n), .val (.lst folk), .val (.lst ways), .val (.lst lets), .val (.lst spots), .no, .no, .no, .no, .no, .no], by simp [Pt.set, setAll], ?_⟩
  have hfl5 : folk.length ≤ 4 := by omega
  have sm15 := (((sm1.trans sm2).trans sm3).trans sm4).trans sm5
  -- behind the choice of the ways
  have main : ∀ (ws : List D) (s : Sto), (∀ w ∈ ws, NmD w) → ws.length ≤ 10 → FOk n s → Same n st s → wp (sSeq (sOwn 6 (fLst (aNil))) (sSeq (sFor (iSeq (e1 sortedM (eSl (eVar 2) oNo (oSo (eIf (tBl (e2 gtM (e1 lenM (eVar 1)) (eC (.int 1)))) (e2 ixM (eLst (aCons (eC (.int 2)) (aCons (eC (.int 3)) (aCons (eC (.int 1)) (aCons (eC (.int 4)) (aCons (eC (.int 0)) (aCons (eC (.int 6)) (aNil)))))))) (eCall 2 m_law_draw (aCons (eVar 0) (aCons (eC (.int 6)) (aNil))))) (eC (.int 0))))))) (.nm 5) (sSeq (sSet 7 (eCall 2 m_law_draw (aCons (eVar 0) (aCons (e1 lenM (eVar 1)) (aNil))))) (sSeq (sSet 8 (e2 modM (e1 intM (e2 addM (e2 addM (eVar 7) (eC (.int 1))) (eCall 2 m_law_draw (aCons (eVar 0) (aCons (e2 subM (e1 lenM (eVar 1)) (eC (.int 1))) (aNil)))))) (e1 lenM (eVar 1)))) (sApp 6 (eTup (aCons (eVar 5) (aCons (e2 ixM (eVar 1) (eVar 7)) (aCons (e2 ixM (eVar 1) (eVar 8)) (aCons (eCall 2 m_law_pick (aCons (eVar 0) (aCons (eLst (aCons (eC (.str "queue")) (aCons (eC (.str "bag")) (aCons (eC (.str "call")) (aNil))))) (aNil)))) (aNil)))))))))) (sSeq (sFrz 6 (sSet 9 (eL (eLc (iSeq (eVar 1)) (.nm 10) [10] (tTrue) (eCall 4 m_law_party (aCons (eVar 0) (aCons (eVar 10) (aCons (eCall 3 m_law_doings (aCons (eVar 10) (aCons (eVar 6) (aCons (eVar 3) (aNil))))) (aCons (eVar 4) (aNil)))))))))) (sRet (eTup (aCons (e1 tupM (eVar 9)) (aCons (e1 tupM (eLook 6)) (aNil))))))) [.val (.ref n), .val (.lst folk), .val (.lst ws), .val (.lst lets), .val (.lst spots), .no, .no, .no, .no, .no, .no]) (RunK Q) s := by
    intro ws s hws hwl fs sms
    subst_eqs
    refine ⟨by decide, ?_⟩
    refine k_seq (w_seq (w_for ?_))
    refine wp_mono (Q := fun ds s' => (∀ d ∈ ds, NmD d) ∧ ds.length ≤ 10 ∧ (ds ≠ [] → 1 < folk.length) ∧ FOk n s' ∧ Same n st s') ?_ fun ds s' ⟨hds, hdl, hd1, fs', sms'⟩ => ?_
    · subst_eqs
      refine k_if (fun hb => ?_) fun hb => ?_
      · have hb' : 1 < folk.length := by have := of_decide_eq_true hb; omega
        subst_eqs
        refine ⟨by show 6 ≤ sizeLine; decide, ?_⟩
        subst_eqs
        refine ⟨rfl, spec_draw fs (by decide) (by decide) fun z t a b ft smt => ?_⟩
        obtain ⟨dm, hdm, hdmem⟩ := atI_lt (xs := [D.int 2, .int 3, .int 1, .int 4, .int 0, .int 6]) a b
        refine w_ixL hdm ?_
        obtain ⟨i, rfl⟩ : ∃ i : Int, dm = .int i := by
          simp only [List.mem_cons, List.not_mem_nil, or_false] at hdmem
          rcases hdmem with rfl | rfl | rfl | rfl | rfl | rfl <;> exact ⟨_, rfl⟩
        subst_eqs
        refine w_sortedN (fun x hx => hws x (cut_mem hx)) (by have := cut_len ws none (some i); omega) fun ys hys hyl => ?_
        exact ⟨_, rfl, hys, by rw [hyl]; have := cut_len ws none (some i); omega, fun _ => hb', ft, sms.trans smt⟩
      · subst_eqs
        refine w_sortedN (fun x hx => hws x (cut_mem hx)) (by have := cut_len ws none (some 0); omega) fun ys hys hyl => ?_
        have e0 : (cutD ws none (some 0)).length = 0 := by
          unfold cutD
          rw [HT.sIx_none]
          show (List.take (HT.sIx ws.length ws.length (some ((0 : Nat) : Int)) - 0) _).length = 0
          rw [HT.sIx_nat]
          simp
        exact ⟨_, rfl, hys, by omega, fun hne => absurd (List.eq_nil_of_length_eq_zero (by omega)) hne, fs, sms⟩
    · refine for_each (fun j ρ s => ∃ x5 x7 x8 out, ρ = [.val (.ref n), .val (.lst folk), .val (.lst ws), .val (.lst lets), .val (.lst spots), x5, .own out, x7, x8, .no, .no] ∧ (∀ x ∈ out, Ch x) ∧ out.length = j ∧ FOk n s ∧ Same n st s) _ 0 _ _ ?_ ?_ ?_
      · rintro m d ρ s hm ⟨x5, x7, x8, out, rfl, hout, hlen, f0, sm0⟩
        have hmm := (List.getElem?_eq_some_iff.mp hm).1
        have h2 := hd1 (fun e => by rw [e] at hmm; exact absurd hmm (Nat.not_lt_zero _))
        have hdn := hds d (List.mem_of_getElem? hm)
        refine ⟨_, set_nm (by simp), ?_⟩
        subst_eqs
        refine ⟨rfl, spec_draw f0 (by omega) (by omega) fun z t a b ft smt => ?_⟩
        subst_eqs
        refine ⟨rfl, ?_⟩
        refine spec_draw ft (by show (0 : Int) < (folk.length : Int) - 1; omega) (by show (folk.length : Int) - 1 < 1073741824; omega) fun z2 t2 a2 b2 ft2 smt2 => ?_
        subst_eqs
        refine w_int2 (decide_eq_true (by omega)) ?_
        obtain ⟨p1, hp1, hm1⟩ := atI_lt (xs := folk) a b
        obtain ⟨p2, hp2, hm2⟩ := atI_lt (xs := folk) (Int.emod_nonneg (z + 1 + z2) (by omega)) (Int.emod_lt_of_pos (z + 1 + z2) (by omega))
        subst_eqs
        refine w_ixL hp1 ?_
        subst_eqs
        refine w_ixL hp2 ?_
        subst_eqs
        refine ⟨by show 3 ≤ sizeLine; decide, ?_⟩
        subst_eqs
        refine ⟨rfl, spec_pick ft2 (by decide) (by decide) fun fo t3 hfo ft3 smt3 => ?_⟩
        subst_eqs
        refine ⟨by show 4 ≤ sizeLine; decide, small (by omega), rfl, _, _, _, _, rfl, fun x hx => ?_, by rw [List.length_append]; simp; omega, ft3, ((sm0.trans smt).trans smt2).trans smt3⟩
        rcases List.mem_append.mp hx with h | h
        · exact hout x h
        · rw [List.mem_singleton.mp h]
          simp only [List.mem_cons, List.not_mem_nil, or_false] at hfo
          rcases hfo with rfl | rfl | rfl
          · exact ⟨_, _, _, _, hdn, hfolk p1 hm1, hfolk p2 hm2, .inl rfl, rfl⟩
          · exact ⟨_, _, _, _, hdn, hfolk p1 hm1, hfolk p2 hm2, .inr (.inl rfl), rfl⟩
          · exact ⟨_, _, _, _, hdn, hfolk p1 hm1, hfolk p2 hm2, .inr (.inr rfl), rfl⟩
      · exact ⟨_, _, _, [], rfl, fun _ h => absurd h List.not_mem_nil, rfl, fs', sms'⟩
      · rintro ρ s ⟨x5, x7, x8, out, rfl, hout, hlen, f0, sm0⟩
        refine k_seq (w_seq (w_frz (w_set (by simp [frz1]) (w_eL (w_lc ?_)))))
        refine w_iSeq (w_var rfl ⟨_, rfl, ?_⟩)
        refine lc_each (by simp [wipeE, frz1]) Pa (fun s' => FOk n s' ∧ Same n s s') _ _ (fun d hd s3 ⟨f3, sm3⟩ => ?_) ⟨f0, Same.refl _ _⟩ fun ps s4 hpl hps ⟨f4, sm4⟩ => ?_
        · subst_eqs
          refine ⟨rfl, spec_doings (hfolk d hd) hout (by omega) hle (by rw [hlel]; decide) (by rw [hlel]; decide) fun dos hdos hdne hdl => ?_⟩
          subst_eqs
          refine ⟨rfl, spec_party f3 (hfolk d hd) hdos hdne hdl hsp hspn hspl fun x st' hx _ fx smx => ⟨hx, fx, sm3.trans smx⟩⟩
        · subst_eqs
          refine ⟨by show 2 ≤ sizeLine; decide, ?_⟩
          subst_eqs
          exact q _ s4 ⟨ps, out, hps, by omega, hout, by omega, rfl⟩ f4 (sm0.trans sm4)
  subst_eqs
  refine ⟨rfl, spec_draw f5 (by decide) (by decide) fun z6 s6 a6 b6 f6 sm6 => ?_⟩
  subst_eqs
  refine w_eq shp_int.shp shp_int.shp ?_
  refine k_bl (k_if (fun _ => ?_) fun _ => ?_)
  · refine w_set (by simp) ?_
    have shfolk : (D.lst folk).shp = true := list_shp fun x hx => nmd_shp (hfolk x hx)
    subst_eqs
    refine ⟨_, rfl, ?_⟩
    refine lc_filter (by simp [wipeE]) (fun d => !folk.any fun z => z.eqv d) _ _ (fun d hd T k => ?_) ?_
    · subst_eqs
      exact w_notIn rfl (nmd_shp (hw d hd)).shp shfolk (k_bl k)
    · have hlf : (List.filter (fun d => !folk.any fun z => z.eqv d) ways).length ≤ 6 := Nat.le_trans (List.length_filter_le _ _) (by rw [hwl]; decide)
      refine w_addL (small (by omega)) ?_
      refine k_seq (main _ s6 (fun w hw' => ?_) (by rw [List.length_append]; omega) f6 (sm15.trans sm6))
      rcases List.mem_append.mp hw' with h | h
      · exact hfolk w h
      · exact hw w (List.mem_filter.mp h).1
  · exact w_nil (k_seq (main ways s6 hw (by rw [hwl]; decide) f6 (sm15.trans sm6)))
end PG

set_option linter.all false
set_option maxRecDepth 100000
set_option maxHeartbeats 4000000
/-! PL32: try with several clauses, all of which bind one name. -/
namespace PL
open PySem PySem.Spec L2 LamX PyProof.Rows
abbrev Clause := Value × (Addr → Value → Option Addr → TS)
/-- the ends of a clause's suite: the name in slot i is gone -/
def gone (i : Nat) (D : Ends) : Ends := { nx := fun τ G => D.nx (τ.set i none) G, rt := D.rt, bk := fun τ G => D.bk (τ.set i none) G, ct := fun τ G => D.ct (τ.set i none) G }
/-- what the clauses ask of an exception: the first that takes it -/
def wNam (K : PySem.W.Frag) (i : Nat) (W0 : WX) (D : Ends) : List Clause → WX
  | [] => W0
  | q :: r => fun cls d σ H => ∃ yes : Bool, PySem.W.exmOne K cls q.1 = some yes ∧ (yes = true → ∀ z, H z = none → q.2 z cls d (gone i D) (σ.set i (some (.ref z))) H) ∧ (yes = false → wNam K i W0 D r cls d σ H)
inductive NamOk (X : Cx) (n : Str) : List ExceptHandler → List Clause → Prop
  | none : NamOk X n [] []
  | some {y : Str} {ty : Value} {ts : Addr → Value → Option Addr → TS} {b0 : Stmt} {bs : List Stmt} {p1 p2 : Pos} {hr : List ExceptHandler} {qr : List Clause} (hn : Names X y ty)
      (run : ∀ (z : Addr) (ob : Obj) (cls : Value) (d : Option Addr) (pn : List (Addr × Obj)), Zc cls d ob → (∃ vs, ob.data = .fields vs) → PSs (X.suite z ((z, ob) :: pn)) (b0 :: bs) (ts z cls d)) (rest : NamOk X n hr qr) :
      NamOk X n (.ExceptHandler (.some (.Name y p1)) (.some n) (b0 :: bs) p2 :: hr) ((ty, ts) :: qr)
section
variable {X : Cx} {n : Str} {i : Nat} {body : List Stmt} {h0 : ExceptHandler} {hr : List ExceptHandler} {qs : List Clause} {pos : Pos} {tb : WX → TS} {W0 : WX}
theorem ps_try_named (hst : X.stack = X.env :: X.outer) (hfm : X.env.frame = some X.env.locals) (hN : X.N.Nodup) (hi : X.N[i]? = some n) (hln : X.env.kindOf n = some .local) (tk : Takes X W0)
    (hbody : ∀ (W : WX) (pn : List (Addr × Obj)) (xe : Value → Shared → Prop), Takes (X.tr pn xe) W → PassesOwn (model X.prog X.w) X.A X.env xe → PSs (X.tr pn xe) body (tb W)) (hks : NamOk X n (h0 :: hr) qs) :
    PS X (.Try body (h0 :: hr) [] [] pos) (fun D σ H => tb (wNam X.K i W0 D qs) D σ H) := by
  constructor
  intro pins s σ H D I wish
  have okX := I.ok
  have frames : X.A.frames = some (X.env :: X.outer) := by rw [okX.frames, hst]
  have isLoc : Loc X.env.scope n := .inl hln
  apply wpAny_Try_except
  -- the body, with the clauses as what it raises into
  have ran := (hbody (wNam X.K i W0 D qs) (X.pn ++ pins) (fun u t1 => wpAny (model X.prog X.w) X.A (noteFrame u X.env) (fun _ t2 => wpAny (model X.prog X.w) X.A (setFlight u none) (fun _ t3 => wpAny (model X.prog X.w) X.A (handleBy u X.env (h0 :: hr)) (SP X pins D) X.xe t3) X.xe t2) X.xe t1) ?caught PassesOwn.looking).run [] s σ H D (I.toTry _) wish
  case caught =>
    intro u t ⟨z, B, sI, pins2, τ, G, cls, d, hu, JT, kept, up0, sky0, zn, os0, bare, asks⟩
    subst hu
    have JJ : Inv X pins τ G sI := JT.ofTry okX
    have sky1 : Sky B (X.env :: X.outer) z (Zc cls d) X.env.locals t.heap := by rw [← hst]; exact sky0
    refine Sky.land Zc.steady frames hfm sky1 fun g1 fly1 up1 => ?_
    have upA := up0.trans up1
    have J1 : Inv X pins τ G { t with heap := g1 } := JJ.landed kept fly1.1 upA os0 bare
    obtain ⟨ob1, ws1, at1, zc1, dat1⟩ := fly1.there
    have notFrame : z ∉ frs (X.env :: X.outer) := fun mem => by
      obtain ⟨_, o2, at2, no2⟩ := fly1.2.2.1.mem mem
      rw [at1] at at2; cases at2
      exact no2 _ dat1
    have notLoc : z ≠ X.env.locals := fun e => notFrame (List.mem_filterMap.mpr ⟨X.env, List.mem_cons_self, by rw [hfm, e]⟩)
    have notFs : z ∉ X.fs := fun mem => by
      obtain ⟨ev, hev, e⟩ := List.mem_filterMap.mp mem
      exact notFrame (List.mem_filterMap.mpr ⟨ev, List.mem_cons_of_mem _ hev, e⟩)
    have inSuite := J1.suite at1 dat1 zn notLoc notFs
    -- clause by clause
    suffices clauses : ∀ (hs : List ExceptHandler) (qr : List Clause), NamOk X n hs qr → wNam X.K i W0 D qr cls d τ G → wpAny (model X.prog X.w) X.A (handleBy (.ref z) X.env hs) (SP X pins D) X.xe { t with heap := g1 } from clauses _ _ hks asks
    intro hs qr ok
    induction ok with
    | none =>
      intro out
      apply wpAny_handleBy_nil
      obtain ⟨_, _, _, ob, ws, T, oT, tsT, atz, zc, dat, one, _⟩ := id fly1
      unfold PySem.passOn
      apply wpAny_bind
      refine wpAny_field atz dat one ?_
      rw [if_neg (show ¬ ((Value.ref T == Value.none) = true) by simp)]
      have last : wpAny (model X.prog X.w) X.A (setFlight (.ref z) X.env.frame) (fun _ t4 => wpAny (model X.prog X.w) X.A (throw (.ref z) : Sem Flow) (SP X pins D) X.xe t4) X.xe { t with heap := g1 } := by
        rw [hfm]
        refine HandSPX.setFlight_upZ fly1 fun g2 held2 up2 => ?_
        apply wpAny_throw
        exact tk _ _ ⟨z, B, sI, pins, τ, G, cls, d, rfl, JJ, kept, upA.trans up2, .inr (.inr (by rw [hst]; exact held2)), zn, os0, bare, out⟩
      first | exact wpAny_bind (wpAny_pure (wpAny_bind last)) | exact wpAny_bind last
    | @some y ty ts b0 bs p1 p2 hrest qrest hn run _ ih =>
      intro ⟨yes, exm, onYes, onNo⟩
      refine wpAny_handleBy_cons (codeAny_handlers_test ?_) (by intro e; cases e)
      have looks : PySem.W.Looks (model X.prog X.w) g1 (typeOf (.ref z)) cls := fun A Q E t2 keep k => wpAny_typeOf_ref (keep _ _ at1) (by rw [zc1.1]; exact k)
      have named : ∀ {Q E : Value → Shared → Prop}, Q ty { t with heap := g1 } → wpAny (model X.prog X.w) (X.A.mark (some (.ref z))) (eval (.Name y p1) X.env) Q E { t with heap := g1 } := by
        intro Q E k
        obtain ⟨g0, dbg, inMod | ⟨notMod, boot, nn⟩⟩ := hn
        · exact ld_glob (X := X.suite z ((z, ob1) :: (X.pn ++ pins))) inSuite g0 inMod k dbg
        · exact ld_blt (X := X.suite z ((z, ob1) :: (X.pn ++ pins))) inSuite g0 notMod boot k nn dbg
      refine named ((PySem.W.exm_one (M := model X.prog X.w) J1.kIn looks exm).here ?_)
      cases yes with
      | false => exact ih (onNo rfl)
      | true =>
        refine codeAny_handlers_suite_as (HandSPX.lands_againZ fly1 fun g2 fly2 up2 => ?_)
        have J2 : Inv X pins τ G { t with heap := g2 } := JJ.landed kept fly2.1 (upA.trans up2) os0 bare
        obtain ⟨ob2, ws2, at2, zc2, dat2⟩ := fly2.there
        refine store_ok (X := X.suite z ((z, ob2) :: (X.pn ++ pins))) (v := .ref z) (J2.suite at2 dat2 zn notLoc notFs) hN hi isLoc rfl (fun t5 J5 => ?_) (.inr hln)
        refine wpAny_mono ((run z ob2 cls d (X.pn ++ pins) zc2 ⟨_, dat2⟩).run [] t5 _ G _ J5 (onYes rfl z zn)) (fun fl t6 post => ?_) fun _ _ no => no.elim
        have leave : ∀ {τ6 : L2.St} {G6 : Hp} {Q : Shared → Prop}, Inv (X.suite z ((z, ob2) :: (X.pn ++ pins))) [] τ6 G6 t6 → (∀ t7, Inv X pins (τ6.set i none) G6 t7 → Q t7) → wpAny (model X.prog X.w) X.A (do bindName X.env n .none; unbindBehindTheSuite X.env n p2) (fun _ t7 => Q t7) X.xe t6 := by
          intro τ6 G6 Q J6 k
          exact gone_ok (J6.unsuite okX) hN hi hln k
        cases fl with
        | ret _ =>
          obtain ⟨v6, τ6, G6, J6, rep6, k6⟩ := post
          exact leave J6 fun _ J7 => ⟨_, _, _, J7, rep6, k6⟩
        | next =>
          obtain ⟨τ6, G6, J6, k6⟩ := post
          exact leave J6 fun _ J7 => ⟨_, _, J7, k6⟩
        | brk =>
          obtain ⟨τ6, G6, J6, k6⟩ := post
          exact leave J6 fun _ J7 => ⟨_, _, J7, k6⟩
        | cont =>
          obtain ⟨τ6, G6, J6, k6⟩ := post
          exact leave J6 fun _ J7 => ⟨_, _, J7, k6⟩
  refine wpAny_mono ran (fun fl t1 post => ?_) fun _ _ no => no
  cases fl with
  | ret _ =>
    obtain ⟨v, τ, G, J, rep, k⟩ := post
    exact ⟨v, τ, G, J.ofTry okX, rep, k⟩
  | next =>
    obtain ⟨τ, G, J, k⟩ := post
    exact wpAny_execs_nil ⟨τ, G, J.ofTry okX, k⟩
  | brk =>
    obtain ⟨τ, G, J, k⟩ := post
    exact ⟨τ, G, J.ofTry okX, k⟩
  | cont =>
    obtain ⟨τ, G, J, k⟩ := post
    exact ⟨τ, G, J.ofTry okX, k⟩
end
end PL

set_option linter.all false
set_option maxRecDepth 100000
set_option maxHeartbeats 4000000
/-! PL33: what is heard with several clauses: ("gave", what it gives), or (x, e.f, e.g) of the class x that takes it. -/
namespace PL
open PySem PySem.Spec L2 LamX PyProof.Rows
variable {wW : World}
structure HCl where
  x : Str
  C : Addr
  f : Str
  g : Str
def HCl.key (z : HCl) : Str × Str × Str := (z.x, z.f, z.g)
def kCaughtL (L : List HCl) (Q : VK) : XK := fun cls d H' => ∃ z ∈ L, kCaught z.C z.x z.f z.g Q cls d H'
def tHearL (L : List HCl) : (XK → Hp → VK → Prop) → Hp → VK → Prop := fun tl H Q => tl (kCaughtL L Q) H (kGave Q)
inductive HsL (e : Str) : List ExceptHandler → List HCl → Prop
  | nil : HsL e [] []
  | cons {y : Str} {C : Addr} {f g : Str} {hs : List ExceptHandler} {L : List HCl} {j2 k2 : Nat} {p4 p7 p9 p10 p11 p12 p13 p14 p15 : Pos} (r : HsL e hs L) :
      HsL e (.ExceptHandler (some (.Name y p4)) (some e) [.Return (some (.Tuple [.Constant (.str y) j2 p9, .Attribute (.Name e p10) f p11, .Attribute (.Name e p12) g p13] k2 p14)) p15] p7 :: hs) (⟨y, C, f, g⟩ :: L)
/-- what is known of a clause's class -/
structure ClOk (X : Cx) (sg : Scope) (z : HCl) : Prop where
  T : XfC X.K z.C
  f : PySem.W.findIn X.K (.ref z.C) z.f = some none
  g : PySem.W.findIn X.K (.ref z.C) z.g = some none
  ge : sg.names.lookup z.x = some .globalImplicit
  me : X.mg z.x = some (.ref z.C)
  de : (z.x == ("__debug__" : Str)) = false
section
variable {X : Cx}
def cls1 (z : HCl) : Clause := (.ref z.C, fun a cls d D σ H => σ[1]? = some (some (V.ref a)) ∧ cls = .ref z.C ∧ ∃ dd fs v1 v2, d = some dd ∧ H dd = some (.xd fs) ∧ fs.lookup z.f = some v1 ∧ fs.lookup z.g = some v2 ∧ ∀ p, H p = none → D.rt (.ref p) (upd H p (.tup [.str z.x, v1, v2])))
theorem hear_givesL {x a e q : Str} {sg : Scope} {gd : Addr} {cdg : Value} {j k1 : Nat} {p1 p2 p3 p5 p6 p8 : Pos} {h0 : ExceptHandler} {hr : List ExceptHandler} {L : List HCl} (hs : HsL e (h0 :: hr) L) (ok : ∀ z ∈ L, ClOk X sg z)
    (hx : ∀ z ∈ L, ∀ y ∈ L, PySem.W.exmOne X.K (.ref z.C) (.ref y.C) = some (decide (z.C = y.C))) (nd : ∀ z ∈ L, ∀ y ∈ L, z.C = y.C → z = y)
    (hne : ([a, e] : List Str).Nodup) (hle : sg.names.lookup e = some .local) (hee : (e == ("__debug__" : Str)) = false) (hec : (e == ("__classdict__" : Str)) = false) :
    GivesTo X [a, e] x sg gd cdg [.Try [.Return (some (.Tuple [.Constant (.str "gave") j p5, .Call (.Name a p1) [] [] p2] k1 p6)) p3] (h0 :: hr) [] [] p8] a q (tHearL L) := by
  intro f0 c' s H Q tl act hc h
  have cl : ∀ (hs : List ExceptHandler) (M : List HCl), HsL e hs M → (∀ z ∈ M, ClOk X sg z) → NamOk (cxOf C8.CX0 X.prog X.w X.K X.mg X.base [a, e] x sg gd cdg X.A X.stack s H C8.E0).nox e hs (M.map cls1) := by
    intro hs M hm
    induction hm with
    | nil => exact fun _ => .none
    | @cons zy zC zf zg hs M j2 k2 p4 p7 p9 p10 p11 p12 p13 p14 p15 r ih =>
      intro hok
      have o := hok ⟨zy, zC, zf, zg⟩ List.mem_cons_self
      refine .some ⟨o.ge, o.de, .inl o.me⟩ (fun b oe cls d pn hz hfd => ?_) (ih fun y hy => hok y (List.mem_cons_of_mem _ hy))
      refine PSs.imp (pss_one (ps_ret (pe_tup (pa_cons pe_str (pa_cons (pe_xf o.T o.f hz hfd (pe_var (i := 1) rfl (.inl hle) hee hec)) (pa_cons (pe_xf o.T o.g hz hfd (pe_var (i := 1) rfl (.inl hle) hee hec)) pa_nil)))))) fun D σ H' w => ?_
      obtain ⟨w2, rfl, dd, fs, v1, v2, rfl, g1, g2, g3, g4⟩ := w
      refine ⟨.ref b, w2, rfl, rfl, dd, fs, v1, rfl, g1, g2, ?_⟩
      refine ⟨.ref b, w2, rfl, rfl, dd, fs, v2, rfl, g1, g3, ?_⟩
      exact ⟨by show 3 ≤ sizeLine; decide, g4⟩
  refine ⟨_, pss_one (ps_try_named (X := (cxOf C8.CX0 X.prog X.w X.K X.mg X.base [a, e] x sg gd cdg X.A X.stack s H C8.E0).nox) (i := 1) (qs := L.map cls1)
      (tb := fun W D σ H => ∃ Ech : XK, (∀ cls d σ' H', Ech cls d H' → σ'.length = 2 → W cls d σ' H') ∧ σ[0]? = some (some (.ref f0)) ∧ H c' = some (CodeO c' q) ∧ tl Ech H (kGave D.rt))
      rfl rfl hne rfl hle L2.takes0 (fun W pn xe tk _ => ?_) (cl _ _ hs ok)), ?_⟩
  · refine ⟨fun pins s' σ H' D I h' => ?_⟩
    obtain ⟨Ech, hW, h1, h2, h3⟩ := h'
    have hp := act (fun cls d σ H => σ.length = 2 → W cls d σ H) pn xe Ech p1 p2 (Takes.len tk) (fun cls d σ' H' e => hW cls d σ' H' e)
    refine (pss_one (ps_ret (pos := p3) (pe_tup (x1 := k1) (pos := p6) (pa_cons pe_str (pa_cons hp pa_nil))))).run pins s' σ H' D I ?_
    refine ⟨h1, h2, ?_⟩
    have e : (kGave D.rt) = fun x H1 => ([.str "gave", x] : List V).length ≤ sizeLine ∧ ∀ p, H1 p = none → D.rt (.ref p) (upd H1 p (.tup [.str "gave", x])) := by
      funext x H1
      exact propext ⟨fun z => ⟨by show 2 ≤ sizeLine; decide, z⟩, fun z => z.2⟩
    rw [e] at h3
    exact h3
  · refine ⟨kCaughtL L Q, fun cls d σ' H' hk hl => ?_, rfl, hc, h⟩
    obtain ⟨z, hzL, rfl, dd, fs, v1, v2, rfl, h1, h2, h3, h4⟩ := hk
    have asks : ∀ (M : List HCl), (∀ y ∈ M, y ∈ L) → z ∈ M → ∀ (W0 : WX) (D : Ends), D.rt = Q → wNam X.K 1 W0 D (M.map cls1) (.ref z.C) (some dd) σ' H' := by
      intro M
      induction M with
      | nil => exact fun _ hz => absurd hz List.not_mem_nil
      | cons y M ih =>
        intro hM hz W0 D hD
        refine ⟨decide (z.C = y.C), hx z hzL y (hM y List.mem_cons_self), fun e b hb => ?_, fun e => ?_⟩
        · have ey := nd z hzL y (hM y List.mem_cons_self) (of_decide_eq_true e)
          subst ey
          refine ⟨List.getElem?_set_self (by omega), rfl, dd, fs, v1, v2, rfl, h1, h2, h3, ?_⟩
          show ∀ p, H' p = none → D.rt (.ref p) _
          rw [hD]; exact h4
        · rcases List.mem_cons.mp hz with ey | hz
          · subst ey; simp at e
          · exact ih (fun y hy => hM y (List.mem_cons_of_mem _ hy)) hz W0 D hD
    exact asks L (fun _ h => h) hzL _ _ rfl

/-- what the law's own def hears -/
def eHearL (P : Addr) (q : Str) (l : List (Str × Str × Str)) (b : En → M D) : En → M D := fun ρ st => if st.any (tabIs P q) = true then match b ρ st with
  | .ok d st' => .ok (.tup [.str "gave", d]) st'
  | .err ⟨c, fs⟩ st' => match fs with
    | [(g', v2), (f', v1)] => if (c, f', g') ∈ l ∧ f' ≠ g' then .ok (.tup [.str c, v1, v2]) st' else .bad
    | _ => .bad
  | .bad => .bad
  else .bad
theorem je_hearL {P c : Addr} {qq x a : Str} {LL : List HCl} {l : List (Str × Str × Str)} {k : Nat} {params : Arguments} {body : Expr} {scope : Scope} {p lpos pos : Pos} {E : XK} {H0 : Hp} {b : En → M D} (R : Hears X.prog X.w X.K X.mg x a (tHearL LL)) (hl : LL.map HCl.key = l) (hmx : ∀ z ∈ LL, X.mg z.x = some (.ref z.C)) (TB : TabB X.base X.mg c P) (hc : X.env.code = .ref c) (hr : Room (k + 2) X.A)
    (hbody : ∀ (A : Around) (outer : List Env) (s : Shared) (H : Hp) (E : XK) (f c' : Addr), Room k (A.deeper (lamEnv X scope s.heap.objs.size f c')) → JE (lamCx X A outer s H E scope f c') E H0 b body)
    (L : LamS X.env.scope scope) (hq : lamQ X = qq) (hg : Gl X x := by rfl) (hdef : defaultsOf params X.env = ([], []) := by rfl) (hbind : ∀ (q : Str) (cl : List (Str × Addr)) (pm cv tv : Value), bindArgs (PySem.W.kla_fn "<lambda>" q params body scope cl pm cv tv) ⟨[], []⟩ = pure [] := by intros; rfl)
    (hdb : (x == ("__debug__" : Str)) = false := by decide) (hd : (a == ("__debug__" : Str)) = false := by decide) (hcd : (a == ("__classdict__" : Str)) = false := by decide) :
    JE X E H0 (eHearL P qq l b) (.Call (.Name x p) [.Lambda params body scope lpos] [] pos) := by
  subst hq
  refine PE.imp (pe_lamH (t := fun E' => Se X E' H0 (rRep X.K) b) R hg TB hc hr L hdef hbind (fun A outer s H E' f c' hr => hbody A outer s H E' f c' hr) hdb hd hcd) fun σ H Q ⟨G, μ, st, ρ, w, er, q⟩ => ?_
  unfold eHearL at q
  by_cases ht : st.any (tabIs P (lamQ X)) = true
  · rw [if_pos ht] at q
    obtain ⟨o, ho, hoe⟩ := List.any_eq_true.mp ht
    obtain ⟨n, hn⟩ := List.getElem?_of_mem ho
    cases o with
    | dict _ => cases hoe
    | lst _ => cases hoe
    | ins _ _ => cases hoe
    | nd _ => cases hoe
    | tab P' q' =>
    obtain ⟨rfl, rfl⟩ := of_decide_eq_true hoe
    obtain ⟨a0, hm, ga, rfl, ps, hP, hT, hcode⟩ := w.obj n _ hn
    -- from any state that bears the store
    have core : ∀ H1 G1, Wd X.w X.K H1 G1 μ st → Stp H G μ H1 G1 μ → tHearL LL (fun E' H' Q' => Se X E' H0 (rRep X.K) b σ H' Q') H1 Q := fun H1 G1 w1 s1 => by
      refine ⟨G1, μ, st, ρ, w1, er.step s1, ?_⟩
      cases hb : b ρ st with
      | bad => rw [hb] at q; exact q.elim
      | ok d st' =>
        rw [hb] at q
        intro v H' G' μ' w' t' r' p hp
        obtain ⟨w2, s2⟩ := w'.new (o := .tup [.str "gave", v]) hp
        exact q _ _ _ _ w2 (s1.trans (t'.trans s2)) (.tup (.inl (.inl upd_same)) (.cons (.str _) (.cons (r'.mono s2.g s2.m) .nil)))
      | err xx st' =>
        rw [hb] at q
        obtain ⟨cc, fs⟩ := xx
        intro cl dd H' G' μ' w' t' xr
        match fs, xr, q with
        | [(g', v2), (f', v1)], xr, q =>
          have q' : Post X.w X.K X.mg E (rRep X.K) H G μ (if (cc, f', g') ∈ l ∧ f' ≠ g' then Res.ok (D.tup [.str cc, v1, v2]) st' else Res.bad) Q := q
          by_cases hcnd : (cc, f', g') ∈ l ∧ f' ≠ g'
          · rw [if_pos hcnd] at q'
            obtain ⟨hin, hfg⟩ := hcnd
            rw [← hl] at hin
            obtain ⟨z, hzL, hzk⟩ := List.mem_map.mp hin
            have k1 : z.x = cc := congrArg (fun t => t.1) hzk
            have k2 : z.f = f' := congrArg (fun t => t.2.1) hzk
            have k3 : z.g = g' := congrArg (fun t => t.2.2) hzk
            subst k1 k2 k3
            obtain ⟨hcl, d0, ws, rfl, hd0, hws, rw_⟩ := xr
            have hcl' : X.mg z.x = some cl := hcl
            rw [hmx _ hzL] at hcl'; cases hcl'
            match ws, hws, rw_, hd0 with
            | [(n2, w2), (n1, w1')], hws, .cons r2 (.cons r1 .nil), hd0 =>
              have e1 : n2 = z.g := by simp at hws; exact hws.1
              have e2 : n1 = z.f := by simp at hws; exact hws.2
              subst e1 e2
              refine ⟨_, hzL, rfl, d0, _, w1', w2, rfl, hd0, ?_, ?_, fun p hp => ?_⟩
              · have : (z.f == z.g) = false := by simpa using hfg
                simp [List.lookup, this]
              · simp [List.lookup]
              · obtain ⟨w3, s3⟩ := w'.new (o := .tup [.str z.x, w1', w2]) hp
                exact q' _ _ _ _ w3 (s1.trans (t'.trans s3)) (.tup (.inl (.inl upd_same)) (.cons (.str _) (.cons (r1.mono s3.g s3.m) (.cons (r2.mono s3.g s3.m) .nil))))
          · rw [if_neg hcnd] at q'
            exact q'.elim
        | [], _, q => exact q.elim
        | [_], _, q => exact q.elim
        | _ :: _ :: _ :: _, _, q => exact q.elim
    refine ⟨ps, hP, hT, fun z cv hz => ?_, core H G w .refl, fun k' qs hk hq hz => ?_⟩
    · obtain ⟨c2, e1, e2⟩ := hcode z cv hz
      exact ⟨c2, e1, w.imm _ _ e2⟩
    · have hPk : a0 ≠ k' := fun e => by rw [e, hk] at hP; cases hP
      obtain ⟨w1, s1⟩ := w.new (o := CodeO k' (lamQ X)) hk
      have ew : upd (upd H a0 (.tbl qs)) k' (CodeO k' (lamQ X)) = upd (upd H k' (CodeO k' (lamQ X))) a0 (.tbl qs) := by
        funext b
        by_cases h1 : b = k'
        · rw [h1, upd_same, upd_ne (Ne.symm hPk), upd_same]
        · by_cases h2 : b = a0
          · rw [upd_ne h1, h2, upd_same, upd_same]
          · rw [upd_ne h1, upd_ne h2, upd_ne h2, upd_ne h1]
      rw [ew]
      obtain ⟨w2, s2⟩ := w1.write (o := .tbl qs) (x := .tab a0 (lamQ X)) hn hm ⟨rfl, qs, upd_same, hq, fun z cv hh => by
        rcases hz z cv hh with e | e
        · exact ⟨k', e, upd_same⟩
        · obtain ⟨c2, e1, e2⟩ := hcode z cv e
          exact ⟨c2, e1, s1.g _ _ e2⟩⟩
      have e3 : st.set n (.tab a0 (lamQ X)) = st := by
        apply List.ext_getElem?
        intro m
        by_cases hm2 : n = m
        · subst hm2
          rw [List.getElem?_set_self (List.getElem?_eq_some_iff.mp hn).1, hn]
        · rw [List.getElem?_set_ne hm2]
      rw [e3] at w2
      exact core _ _ w2 (s1.trans s2)
  · rw [if_neg ht] at q
    exact q.elim
end
theorem exm_d {K : PySem.W.Frag} {A : Addr} (a : PySem.W.exmOne K (.ref A) (.ref A) = some true) : PySem.W.exmOne K (.ref A) (.ref A) = some (decide (A = A)) := by rw [a, decide_eq_true rfl]
theorem exm_ne {K : PySem.W.Frag} {A B : Addr} (a : PySem.W.exmOne K (.ref A) (.ref A) = some true) (b : PySem.W.exmOne K (.ref A) (.ref B) = some false) : A ≠ B := fun e => by rw [← e, a] at b; cases b
theorem exm_n {K : PySem.W.Frag} {A B : Addr} (a : PySem.W.exmOne K (.ref A) (.ref A) = some true) (b : PySem.W.exmOne K (.ref A) (.ref B) = some false) : PySem.W.exmOne K (.ref A) (.ref B) = some (decide (A = B)) := by rw [b, decide_eq_false (exm_ne a b)]
/-- what hears with several clauses, from what the top has written -/
theorem hears_ofL {P : Program} {w : World} {K : PySem.W.Frag} {h : Heap} {mg : Str → Option Value} {base : Heap} {x a e : Str} {LL : List HCl} {st : Stmt} {gd : Addr} {oc : Value} {od an : Option Addr} {osl : Array (Option Value)} {kV doc pm cdv ct : Value} (X : K.In h) (N : h.Ns mainGlobals mg)
    (R : ∀ z ∈ LL, Xc P w K mg base z.x z.f z.g ∧ mg z.x = some (.ref z.C) ∧ (defScope st).names.lookup z.x = some .globalImplicit ∧ (z.x == ("__debug__" : Str)) = false)
    (hx : ∀ z ∈ LL, ∀ y ∈ LL, PySem.W.exmOne K (.ref z.C) (.ref y.C) = some (decide (z.C = y.C))) (nd : ∀ z ∈ LL, ∀ y ∈ LL, z.C = y.C → z = y)
    (a0 : PySem.W.nsIn K mainGlobals x = some (some (.ref gd))) (l : K.lookup gd = some ⟨oc, od, .func (PySem.W.fnOf x x (defArgs st) (defBody st) (defScope st) .none kV doc pm an cdv ct), osl⟩) (cc : PySem.W.codeIn K cdv x = true) (k : PySem.W.keepIn K (.ref gd) = true)
    (S : FnScope [a, e] [a] (defScope st)) (hva : Vis (defScope st) a) (hne : ([a, e] : List Str).Nodup) (hle : (defScope st).names.lookup e = some .local) (hee : (e == ("__debug__" : Str)) = false) (hec : (e == ("__classdict__" : Str)) = false)
    {j k1 : Nat} {p1 p2 p3 p5 p6 p8 : Pos} {h0 : ExceptHandler} {hr : List ExceptHandler}
    (hb : defBody st = [.Try [.Return (some (.Tuple [.Constant (.str "gave") j p5, .Call (.Name a p1) [] [] p2] k1 p6)) p3] (h0 :: hr) [] [] p8]) (hs : HsL e (h0 :: hr) LL)
    (bi : ∀ (kV doc pm : Value) (an : Option Addr) (cdv ct : Value) (us : List Value), us.length = 1 → bindArgs (PySem.W.fnOf x x (defArgs st) (defBody st) (defScope st) .none kV doc pm an cdv ct) ⟨us, []⟩ = pure ([a].zip us)) : Hears P w K mg x a (tHearL LL) := by
  refine ⟨gd, defArgs st, defBody st, defScope st, .none, kV, doc, pm, cdv, ct, oc, an, od, osl, [a, e], PySem.W.mg_of X N a0, k, l, cc, .all (bi _ _ _ _ _ _), S, rfl, hva, fun X' q e1 e2 e3 e4 => ?_⟩
  subst e1 e2 e3 e4
  rw [hb]
  refine hear_givesL hs (fun z hz => ?_) hx nd hne hle hee hec
  obtain ⟨R1, hm, hge, hde⟩ := R z hz
  obtain ⟨C, fI, fd, T, iC, tI, F1, hm2, hb2, xf, hf, hg, ex⟩ := R1.ex
  rw [hm] at hm2; cases hm2
  exact ⟨xf, hf, hg, hge, hm, hde⟩

end PL

set_option linter.all false
set_option maxRecDepth 100000
set_option maxHeartbeats 4000000
/-! PL34: a dict of words that the module wrote; xs[::-1]. -/
namespace PL
open PySem PySem.Spec L2 PyProof.Rows
/-- the module's dict x gives for the words kvs what stands there -/
structure Cd (mg : Str → Option Value) (K : PySem.W.Frag) (w : World) (x : Str) (kvs : List (Str × Str)) : Prop where
  ex : ∃ p, mg x = some (.ref p) ∧ ∀ q ∈ kvs, KDct K w p q.1 (.str q.2)
def eCd (kvs : List (Str × Str)) (f : En → M D) : En → M D := fun ρ => (f ρ).bind fun d => match d with
  | .str z => (opt (kvs.lookup z)).bind fun y => M.pure (.str y)
  | _ => M.bad
section
variable {X : Cx} {E : XK} {H0 : Hp} {e i : Expr} {f g : En → M D} {p p2 pos : Pos}
theorem lookup_mem {z y : Str} : ∀ {kvs : List (Str × Str)}, kvs.lookup z = some y → (z, y) ∈ kvs
  | [], h => by cases h
  | (a, b) :: r, h => by
    unfold List.lookup at h
    split at h
    · rename_i hz
      have := eq_of_beq hz
      cases h
      rw [this]; exact List.mem_cons_self
    · exact List.mem_cons_of_mem _ (lookup_mem h)
theorem je_cd {x : Str} {kvs : List (Str × Str)} (C : Cd X.mg X.K X.w x kvs) (hi : JE X E H0 f i) (hs : PlainIx i) (hg : Gl X x := by rfl) (hd : (x == ("__debug__" : Str)) = false := by decide) : JE X E H0 (eCd kvs f) (.Subscript (.Name x p) i pos) := by
  obtain ⟨p0, m, hk⟩ := C.ex
  refine PE.imp (pe_ix ix_kdict (pe_glob (v := .ref p0) hg m rfl hd) hi hs) fun σ H Q ⟨G, μ, st, ρ, w, er, q⟩ => ?_
  refine ⟨G, μ, st, ρ, w, er, Post.bind q fun d st1 y H1 G1 μ1 w1 s1 r1 q1 => ?_⟩
  cases d with
  | str z =>
    cases r1
    obtain ⟨y, hy, q2⟩ := Post.opt q1
    exact ⟨p0, z, .str y, rfl, rfl, hk _ (lookup_mem hy), q2 _ _ _ _ w1 .refl (.str _)⟩
  | _ => exact q1.elim
/-! ### xs[::-1] -/
def tRv (K : PySem.W.Frag) (te tk : TE) : TE := fun σ H Q => te σ H fun x H1 => tPart tk σ H1 fun o H2 => ∃ a xs, o = some (-1) ∧ x = .ref a ∧ SqL K H2 a xs ∧ ∀ p, H2 p = none → Q (.ref p) (upd H2 p (.lst xs.reverse))
theorem pe_rv {te tk : TE} {st : Expr} (he : PE X e te) (hk : PE X st tk) : PE X (.Subscript e (.Slice none none (some st) p2) pos) (tRv X.K te tk) := by
  constructor
  intro pins s σ H Q I h
  refine Subscript_ (thn (he.run pins s σ H _ I h) fun v s1 ⟨x, H1, I1, r1, q1⟩ => ?_)
  refine wpAny_Slice ?_
  rw [evalPart_none]
  refine wpAny_pure (wpAny_pure ?_)
  refine thn ((po_some hk).run pins s1 σ H1 _ I1 q1) fun vk s2 ⟨o, H2, I2, pk, a, xs, eo, ex, hx, q2⟩ => ?_
  subst ex eo
  cases r1
  have I3 : Inv X pins σ H2 { s2 with heap := s2.heap.push { cls := .type "slice", data := .fields #[.none, .none, vk] } } := I2.kept (t' := s2.toks) fun b ob q => Heap.get?_push_of_some _ q
  obtain ⟨its, r, ht, hz⟩ := I3.list hx
  refine tail_any (ops := [.ref a, .ref s2.heap.objs.size]) ht.isList.typeIs slot_list_getitem.lookup (wpAny_getItem_list_slice ht.isList (Heap.IsSliceOf.new ..) .none .none pk (by simp) ?_ (by rw [List.size_toArray, ← r.length]; exact hz)) (by with_unfolding_all rfl)
  rw [PySem.W.krv_pick]
  refine ⟨V.ref _, _, I3.laid (t' := s2.toks) (o := .lst xs.reverse) (fun b ob q => Heap.get?_push_of_some _ q) (Nat.le_refl _) ?_, rfl, q2 _ (I3.hok.fresh (Nat.le_refl _))⟩
  exact ⟨by rw [List.length_reverse]; exact hz, its.reverse, 0, r.reverse, Heap.get?_push_size _ rfl⟩
def rvM : D → M D
  | .lst ds => M.pure (.lst ds.reverse)
  | _ => M.bad
def eRv (f k : En → M D) : En → M D := fun ρ => (f ρ).bind fun d => (k ρ).bind fun k => match k with
  | .int i => if i = -1 then rvM d else M.bad
  | _ => M.bad
theorem je_rv {st : Expr} {fk : En → M D} (he : JB X E H0 f e) (hk : JE X E H0 fk st) : JE X E H0 (eRv f fk) (.Subscript e (.Slice none none (some st) p2) pos) := PE.imp (pe_rv he hk) fun σ H Q ⟨G, μ, s0, ρ, w, er, q⟩ => by
  refine ⟨G, μ, s0, ρ, w, er, Post.bind q fun d st1 x H1 G1 μ1 w1 s1 r1 q1 => ?_⟩
  refine ⟨G1, μ1, st1, ρ, w1, er.step s1, Post.bind q1 fun k st2 y H2 G2 μ2 w2 s2 r2 q2 => ?_⟩
  cases r2 with
  | int i =>
    refine ⟨i, rfl, ?_⟩
    dsimp only at q2
    by_cases hi : i = -1
    · rw [if_pos hi] at q2
      subst hi
      have rx := (r1.step s2).weak
      cases d with
      | lst ds =>
        obtain ⟨a, vs, rfl, h1, r⟩ := rx.lst w2.imm
        refine ⟨a, vs, rfl, rfl, .inl (.inl h1), fun p hp => ?_⟩
        obtain ⟨w3, s3⟩ := w2.new (o := .lst vs.reverse) hp
        exact q2 _ _ _ _ w3 s3 (.lst upd_same ((r.mono s3.g s3.m).reverse))
      | _ => exact q2.elim
    · rw [if_neg hi] at q2; exact q2.elim
  | _ => exact q2.elim
/-! ### list(range(n)) -/
def lrgM : D → M D
  | .int n => guardM (decide (0 ≤ n ∧ n ≤ 16777216)) (M.pure (.lst ((List.range n.toNat).map fun (i : Nat) => D.int i)))
  | _ => M.bad
theorem rep_rg {K : PySem.W.Frag} {G : Hp} {μ : Mu} {n : Int} : RepL K G μ (rgV 0 n) ((List.range n.toNat).map fun (i : Nat) => D.int i) := by
  unfold rgV
  rw [Int.sub_zero]
  generalize List.range n.toNat = l
  induction l with
  | nil => exact .nil
  | cons j l ih => exact .cons (show Rep K G μ (.int (0 + (j : Int))) (.int j) by rw [Int.zero_add]; exact .int _) ih
theorem je_lrg {a : Expr} {f : En → M D} {p1 p3 p4 : Pos} (hc : X.calm = true) (hg : Gl X "list") (hm : X.mg "list" = none) (hg2 : Gl X "range") (hm2 : X.mg "range" = none) (ha : JE X E H0 f a) (na : starEach [a] X.env = (false, eval a X.env) :: starEach [] X.env := by rfl)
    (nb : starEach [.Call (.Name "range" p3) [a] [] p4] X.env = (false, eval (.Call (.Name "range" p3) [a] [] p4) X.env) :: starEach [] X.env := by rfl) : JE X E H0 (e1 lrgM f) (.Call (.Name "list" p1) [.Call (.Name "range" p3) [a] [] p4] [] pos) :=
  PE.imp (pe_listRg hc hg hm (prg_1 hg2 hm2 ha na) nb) fun σ H Q ⟨G, μ, s0, ρ, w, er, q⟩ => by
    refine ⟨G, μ, s0, ρ, w, er, Post.bind q fun d st1 x H1 G1 μ1 w1 s1 r1 q1 => ?_⟩
    cases r1 with
    | int n =>
      have q2 : Post X.w X.K X.mg E (rRep X.K) H1 G1 μ1 (guardM (decide (0 ≤ n ∧ n ≤ 16777216)) (M.pure (.lst ((List.range n.toNat).map fun (i : Nat) => D.int i))) st1) Q := q1
      obtain ⟨c, q3⟩ := Post.guard q2
      have c := of_decide_eq_true c
      refine ⟨n, rfl, RgOk.of_le (by omega) c.2 (by omega) c.1, fun p hp => ?_⟩
      obtain ⟨w3, s3⟩ := w1.new (o := .lst (rgV 0 n)) hp
      exact q3 _ _ _ _ w3 s3 (.lst upd_same rep_rg)
    | _ => exact q1.elim
end
/-- the scope of the comprehension that the def's statement i assigns -/
def asgScope (s : Stmt) (i : Nat) : Scope := match (defBody s)[i]? with
  | some (.Assign _ (.ListComp _ _ sc _) _) => sc
  | _ => defScope s
end PL

set_option linter.all false
set_option maxRecDepth 100000
set_option maxHeartbeats 4000000
/-! PL35: sets of nested tuples: what a search among them asks. -/
namespace PL
open PySem PySem.Spec L2 PyProof.Rows
section
variable {P : Program} {w : World} {A : Around} {E : Value → Shared → Prop} {s : Shared} {h : Heap}
theorem kid_keys : ∀ {ks : List NestedKey} {us : List Value} {n : Nat}, NestedAll h ks us → NestedKey.depthAll ks ≤ n → ∀ u ∈ us, ∃ k, NestedIs h k u ∧ k.depth ≤ n
  | [], _, _, x, _, u, hu => by cases x; cases hu
  | k :: ks, _, n, x, hn, u, hu => by
    cases x with
    | cons y ys =>
      simp only [NestedKey.depthAll] at hn
      rcases List.mem_cons.mp hu with e | m
      · exact ⟨k, e ▸ y, by omega⟩
      · exact kid_keys ys (by omega) u m
/-- a nested key holds no class statement -/
theorem cls_key : ∀ {n : Nat} {k : NestedKey} {u : Value} {Q : Bool → Shared → Prop}, NestedIs s.heap k u → k.depth ≤ n → Q false s → wpAny (model P w) A (ofAClassStatement n u) Q E s := by
  intro n
  induction n with
  | zero =>
    intro k u Q x hn q
    cases x with
    | tup x1 x2 x3 x4 => simp [NestedKey.depth] at hn
    | _ => exact wpAny_pure q
  | succ n ih =>
    intro k u Q x hn q
    cases x with
    | tup x1 x2 x3 x4 =>
      rename_i b o vs m ks
      have ty : s.TypeIs (.ref b) "tuple" := ⟨o, x1, x2⟩
      have kids := kid_keys x4 (n := n) (by simp only [NestedKey.depth] at hn; omega)
      unfold ofAClassStatement
      refine wpAny_bind (wpAny_typeOf ty ?_)
      dsimp only
      simp only [show (("tuple" : String) == "tuple") = true from by decide, if_true, Bool.not_true, Bool.false_eq_true, if_false]
      try refine wpAny_bind (wpAny_pure ?_)
      try simp only [Bool.not_true, Bool.false_eq_true, if_false]
      show wpAny _ _ (seqItems? (.ref b) >>= _) _ _ s
      refine wpAny_bind (wpAny_seqItems x1 x3 ?_)
      refine wpAny_bind (show wpAny _ _ (forIn vs _ _) _ _ s from ?_)
      rw [← Array.forIn_toList]
      refine wpAny_forIn_list _ (fun more r z => r.1 = none ∧ z = s ∧ ∀ u ∈ more, ∃ k, NestedIs s.heap k u ∧ k.depth ≤ n) _ ?_ ?_ _ _ ⟨rfl, rfl, kids⟩
      · rintro u more r z ⟨-, rfl, every⟩
        obtain ⟨k1, y1, y2⟩ := every u (by simp)
        refine wpAny_bind (ih y1 y2 ?_)
        simp only [Bool.false_eq_true, if_false]
        exact wpAny_pure ⟨rfl, rfl, fun u m => every u (by simp [m])⟩
      · rintro ⟨r, _⟩ z ⟨e, rfl, -⟩
        cases e
        exact wpAny_pure q
    | _ => exact wpAny_pure q
/-- whether its hash is known by value: either answer -/
theorem byv_key : ∀ {n : Nat} {k : NestedKey} {u : Value} {Q : Bool → Shared → Prop}, NestedIs s.heap k u → k.depth ≤ n → (∀ b, Q b s) → wpAny (model P w) A (hashByValue n u) Q E s := by
  intro n
  induction n with
  | zero =>
    intro k u Q x hn q
    cases x with
    | tup x1 x2 x3 x4 => simp [NestedKey.depth] at hn
    | _ => exact wpAny_pure (q _)
  | succ n ih =>
    intro k u Q x hn q
    cases x with
    | tup x1 x2 x3 x4 =>
      rename_i b o vs m ks
      have ty : s.TypeIs (.ref b) "tuple" := ⟨o, x1, x2⟩
      have kids := kid_keys x4 (n := n) (by simp only [NestedKey.depth] at hn; omega)
      unfold hashByValue
      refine wpAny_bind (wpAny_specialOf ty F.slot_tuple_hash.lookup ?_)
      show wpAny _ _ (seqItems? (.ref b) >>= _) _ _ s
      refine wpAny_bind (wpAny_seqItems x1 x3 ?_)
      refine wpAny_bind (show wpAny _ _ (forIn vs _ _) _ _ s from ?_)
      rw [← Array.forIn_toList]
      refine wpAny_forIn_list _ (fun more r z => r.1 = none ∧ z = s ∧ ∀ u ∈ more, ∃ k, NestedIs s.heap k u ∧ k.depth ≤ n) _ ?_ ?_ _ _ ⟨rfl, rfl, kids⟩
      · rintro u more r z ⟨-, rfl, every⟩
        obtain ⟨k1, y1, y2⟩ := every u (by simp)
        refine wpAny_bind (ih y1 y2 fun b => ?_)
        cases b with
        | false =>
          simp only [Bool.not_false, if_true]
          exact wpAny_pure (wpAny_pure (q _))
        | true =>
          simp only [Bool.not_true, Bool.false_eq_true, if_false]
          exact wpAny_pure ⟨rfl, rfl, fun u m => every u (by simp [m])⟩
      · rintro ⟨r, _⟩ z ⟨e, rfl, -⟩
        cases e
        exact wpAny_pure (q _)
    | _ => exact wpAny_pure (q _)
/-- u is the nested key k, no deeper than a set may ask -/
def NkAt (h : Heap) (k : NestedKey) (b : Addr) : Prop := NestedIs h k (.ref b) ∧ k.depth ≤ 8
theorem quiet_search {k : NestedKey} {b : Addr} {us : List Value} {Q : Bool → Shared → Prop} (x : NkAt s.heap k b) (hu : ∀ u ∈ us, ∃ k c, u = Value.ref c ∧ NkAt s.heap k c) (q : Q false s) :
    wpAny (model P w) A (searchCouldBeSeen (.ref b) us) Q E s := by
  unfold searchCouldBeSeen
  refine wpAny_bind (wpAny_forIn_list _ (fun more r z => r.1 = none ∧ z = s ∧ ∀ u ∈ more, ∃ k c, u = Value.ref c ∧ NkAt s.heap k c) _ ?_ ?_ _ _ ⟨rfl, rfl, hu⟩)
  · rintro u more r z ⟨-, rfl, every⟩
    obtain ⟨k1, c, rfl, y⟩ := every u (by simp)
    have go : r.1 = r.1 ∧ z = z ∧ ∀ u ∈ more, ∃ k c, u = Value.ref c ∧ NkAt z.heap k c := ⟨rfl, rfl, fun u m => every u (by simp [m])⟩
    dsimp only
    by_cases same : (b == c || (carriedByValue (.ref b) && carriedByValue (.ref c))) = true
    · exact wp_if_pos same (wpAny_pure ⟨rfl, go.2⟩)
    · refine wp_if_neg same ?_
      refine wpAny_bind (quiet_key k _ 8 _ x.1 x.2 _ _ _ ?_)
      simp only [Bool.not_true, Bool.false_eq_true, if_false]
      refine wpAny_bind (quiet_key k1 _ 8 _ y.1 y.2 _ _ _ ?_)
      simp only [Bool.not_true, Bool.false_eq_true, if_false]
      refine wpAny_bind (cls_key x.1 x.2 ?_)
      simp only [Bool.false_eq_true, if_false]
      refine wpAny_bind (cls_key y.1 y.2 ?_)
      simp only [Bool.false_eq_true, if_false]
      exact wpAny_pure ⟨rfl, go.2⟩
  · rintro ⟨r, _⟩ z ⟨e, rfl, -⟩
    cases e
    exact wpAny_pure q
end
end PL

set_option linter.all false
set_option maxRecDepth 100000
set_option maxHeartbeats 4000000
/-! PL36: a set of nested tuples in the store, the search for one. -/
namespace PL
open PySem PySem.Spec L2 PyProof.Rows
/-- where the way of the hash H begins in a table of the mask m -/
abbrev way0 (m : Nat) (H : Int) : SetTable.Probe := runAt m (SetTable.bits H % (m + 1)) (SetTable.bits H)
abbrev nkRows (w : World) (L : List (Addr × NestedKey)) : List (Int × Value) := L.map fun y => (y.2.hash w, Value.ref y.1)
abbrev hAt (es : Array (Int × Value)) : Nat → Int := fun i => (es[i]?.map (·.1)).getD 0
/-- at a: a set of the nested tuples L -/
structure NSet (w : World) (h : Heap) (a : Addr) (L : List (Addr × NestedKey)) (es : Array (Int × Value)) (ep : Nat) (t : SetTable) : Prop where
  ob : ∃ o, h.get? a = some o ∧ o.ExactSet ∧ o.data = .set es ep t
  rows : es.toList = nkRows w L
  tab : TabOk t (L.map fun y => y.2.hash w)
  once : (L.map (·.2)).Nodup
  mem : ∀ y ∈ L, NkAt h y.2 y.1
  room : L.length * 5 < t.mask * 3
  few : L.length < 64
section
variable {P : Program} {w : World} {A : Around} {E : Value → Shared → Prop} {s : Shared} {h : Heap} {a : Addr} {L : List (Addr × NestedKey)} {es : Array (Int × Value)} {ep : Nat} {t : SetTable}
theorem nkRows_len (e : es.toList = nkRows w L) : es.size = L.length := by
  have := congrArg List.length e
  simpa using this
theorem NSet.len (R : NSet w h a L es ep t) : es.size = L.length := nkRows_len R.rows
theorem NSet.plen (R : NSet w h a L es ep t) : t.place.size = L.length := by
  have := R.tab.sz
  rwa [List.length_map] at this
theorem NSet.fit (R : NSet w h a L es ep t) : t.fits es.size = true := by
  have e1 := R.len
  have e2 := R.plen
  have e3 := R.room
  simp only [SetTable.fits, SetTable.fill, R.tab.dm, Bool.and_eq_true, beq_iff_eq, decide_eq_true_eq]
  refine ⟨by omega, ?_⟩
  show t.place.size + 0 ≤ t.mask
  omega
theorem NSet.at (R : NSet w h a L es ep t) {i : Nat} {y : Addr × NestedKey} (e : L[i]? = some y) : es[i]? = some (y.2.hash w, Value.ref y.1) := by
  rw [← Array.getElem?_toList, R.rows, List.getElem?_map, e, Option.map_some]
theorem NSet.hAt (R : NSet w h a L es ep t) {i : Nat} {y : Addr × NestedKey} (e : L[i]? = some y) : hAt es i = y.2.hash w := by
  show (es[i]?.map (·.1)).getD 0 = _
  rw [R.at e]
  first | done | rfl
theorem way0_dummy (m : Nat) (H : Int) : ∀ n, (nth m (way0 m H) n).dummy = none := by
  have all : ∀ (n : Nat) (p : SetTable.Probe), p.dummy = none → (nth m p n).dummy = none := by
    intro n
    induction n with
    | zero => exact fun _ e => e
    | succ n ih => exact fun p e => ih (adv m p) (by unfold adv; split <;> exact e)
  exact fun n => all n _ rfl
theorem seek (R : NSet w s.heap a L es ep t) {x : Addr} {k : NestedKey} (hx : NkAt s.heap k x) (hu : A.units + 8 < cLine) {K : Nat} (big : K < 10 * SetTable.turns t.mask)
    (free : way t.mask (k.hash w) K ∉ t.place.toList) (full : ∀ c, c < K → way t.mask (k.hash w) c ∈ t.place.toList) {Q : SetFound → Shared → Prop}
    (yes : k ∈ L.map (·.2) → Q (.there none) s) (no : k ∉ L.map (·.2) → Q (.free (way t.mask (k.hash w) K) false) s) :
    ∀ (f c : Nat) (st : Option SetTable.Probe), st.getD (t.probeStart (k.hash w)) = nth t.mask (way0 t.mask (k.hash w)) c → c ≤ K → K - c < f →
      (∀ (i : Nat) y, L[i]? = some y → y.2 = k → ∃ d, c ≤ d ∧ d < K ∧ t.place.toList[i]? = some (way t.mask (k.hash w) d)) →
      wpAny (model P w) A (setSearchFrom a (.ref x) (k.hash w) true f st) Q E s := by
  intro f
  induction f with
  | zero => exact fun c st _ _ z => absurd z (Nat.not_lt_zero _)
  | succ f ih =>
    intro c st hst hc hf still
    obtain ⟨o, ho, hex, hd⟩ := R.ob
    have shift : ∀ q, (nth t.mask (nth t.mask (way0 t.mask (k.hash w)) c) q).j = way t.mask (k.hash w) (c + q) := fun q => congrArg SetTable.Probe.j (nth_add t.mask c _ q).symm
    have Kc : c + (K - c) = K := by omega
    rw [setSearchFrom_succ]
    refine wpAny_bind (wpAny_setState_of ho hd R.fit ?_)
    dsimp only
    refine wp_if_neg (by unfold SetTable.gaveWay; rw [mask_odd R.tab.mok]; decide) ?_
    try refine wpAny_bind (wpAny_pure ?_)
    rcases go_spec t R.tab.ris R.tab.dm (hAt es) (k.hash w) (10 * SetTable.turns t.mask) (K - c) _ (way0_dummy t.mask (k.hash w) c) (by omega)
      (fun q hq => by rw [shift]; exact full (c + q) (by omega)) (by rw [shift, Kc]; exact free) with ⟨q, i, hq, hi, hh, pass, found⟩ | ⟨pass, found⟩
    · have probe : t.probe (hAt es) (k.hash w) (st.getD (t.probeStart (k.hash w))) = some (.candidate (way t.mask (k.hash w) (c + q)) i (nth t.mask (way0 t.mask (k.hash w)) (c + (q + 1)))) := by
        rw [hst, ← shift, nth_add t.mask c _ (q + 1)]
        exact found
      rw [probe]
      dsimp only
      rw [shift] at hi
      have il : i < L.length := by
        have := (List.getElem?_eq_some_iff.mp hi).1
        rw [Array.length_toList, R.plen] at this
        exact this
      obtain ⟨y, hy⟩ : ∃ y, L[i]? = some y := ⟨_, List.getElem?_eq_getElem il⟩
      have ym := List.mem_of_getElem? hy
      have live := slot_live R.tab.ris hi
      have after : wpAny (model P w) A (searchRest a (.ref x) (k.hash w) true f es t (way t.mask (k.hash w) (c + q)) i (nth t.mask (way0 t.mask (k.hash w)) (c + (q + 1)))) Q E s := by
        unfold searchRest
        rw [R.at hy]
        dsimp only
        refine wpAny_bind (wpAny_holding ((nestedKind P w).eqBool hu (R.mem y ym) hx ?_))
        refine wpAny_bind (wpAny_setState_of ho hd R.fit ?_)
        dsimp only
        by_cases eq : y.2 = k
        · exact wp_if_pos (by simp [eq]) (wpAny_pure (yes (List.mem_map.mpr ⟨y, ym, eq⟩)))
        · refine wp_if_neg (by simp [eq]) ?_
          try refine wpAny_bind (wpAny_pure ?_)
          rw [sameMem]
          dsimp only
          simp only [if_true, live, R.at hy]
          refine wpAny_bind (wpAny_isSame_ref_self (wpAny_bind (wpAny_pure ?_)))
          simp only [if_true]
          refine wp_if_neg (by simp [eq]) (ih (c + (q + 1)) _ rfl (by omega) (by omega) fun i0 y0 h0 k0 => ?_)
          obtain ⟨d, d1, d2, d3⟩ := still i0 y0 h0 k0
          refine ⟨d, ?_, d2, d3⟩
          rcases Nat.lt_trichotomy d (c + q) with z | z | z
          · refine absurd ?_ (pass (d - c) i0 (by omega) (by rw [shift, show c + (d - c) = d by omega]; exact d3))
            rw [R.hAt h0, k0]
          · subst z
            have two := slot_live R.tab.ris d3
            rw [live] at two
            injection two with two
            subst two
            rw [hy] at h0
            exact absurd ((congrArg Prod.snd (Option.some.inj h0)).trans k0) eq
          · omega
      by_cases led : t.led = true
      · refine wp_if_neg (by simp [led]) ?_
        try refine wpAny_bind (wpAny_pure ?_)
        exact after
      · refine wp_if_pos (by simp [led]) (wpAny_bind (quiet_search hx (fun u hm => ?_) ?_))
        · obtain ⟨e, he, rfl⟩ := List.mem_map.mp hm
          have e2 : e ∈ es.toList := by
            have both : e ∈ es ∧ e.1 = k.hash w := by simpa using he
            simpa using both.1
          rw [R.rows] at e2
          obtain ⟨y2, m2, rfl⟩ := List.mem_map.mp e2
          exact ⟨y2.2, y2.1, rfl, R.mem y2 m2⟩
        · refine wp_if_neg (by decide) ?_
          try refine wpAny_bind (wpAny_pure ?_)
          exact after
    · have probe : t.probe (hAt es) (k.hash w) (st.getD (t.probeStart (k.hash w))) = some (.empty (way t.mask (k.hash w) K) none) := by
        rw [hst, show way t.mask (k.hash w) K = (nth t.mask (nth t.mask (way0 t.mask (k.hash w)) c) (K - c)).j by rw [shift, Kc]]
        exact found
      rw [probe]
      dsimp only
      refine wpAny_pure (no fun hm => ?_)
      obtain ⟨y0, m0, k0⟩ := List.mem_map.mp hm
      obtain ⟨i0, h0⟩ := List.getElem?_of_mem m0
      obtain ⟨d, d1, d2, d3⟩ := still i0 y0 h0 k0
      refine pass (d - c) i0 (by omega) (by rw [shift, show c + (d - c) = d by omega]; exact d3) ?_
      rw [R.hAt h0, k0]
theorem seek_in (R : NSet w s.heap a L es ep t) {x : Addr} {k : NestedKey} (hx : NkAt s.heap k x) (hu : A.units + 8 < cLine) {Q : SetFound → Shared → Prop} (yes : k ∈ L.map (·.2) → Q (.there none) s)
    (no : ∀ K, k ∉ L.map (·.2) → way t.mask (k.hash w) K ∉ t.place.toList → (∀ c, c < K → way t.mask (k.hash w) c ∈ t.place.toList) → Q (.free (way t.mask (k.hash w) K) false) s) :
    wpAny (model P w) A (setSearch a (.ref x) (k.hash w) true) Q E s := by
  have e1 := R.room
  have e2 : (L.map fun y => y.2.hash w).length ≤ t.mask := by rw [List.length_map]; omega
  obtain ⟨K, big, free, full⟩ := R.tab.first e2 (k.hash w)
  have small : 10 * SetTable.turns t.mask < 2000 := by
    unfold SetTable.turns
    rcases R.tab.mok with e | e | e <;> rw [e] <;> decide
  refine seek R hx hu big free full yes (fun n => no K n free full) 100000 0 none rfl (Nat.zero_le _) (by omega) fun i y hy ky => ?_
  have il : i < t.place.toList.length := by
    rw [Array.length_toList, R.plen]
    exact (List.getElem?_eq_some_iff.mp hy).1
  obtain ⟨c, c1, c2⟩ := R.tab.before free (i := i) (j := t.place.toList[i]) (by rw [List.getElem?_map, hy, ← ky, Option.map_some]) (List.getElem?_eq_getElem il)
  exact ⟨c, Nat.zero_le _, c1, by rw [c2]; exact List.getElem?_eq_getElem il⟩
end
end PL

set_option linter.all false
set_option maxRecDepth 100000
set_option maxHeartbeats 4000000
/-! PL37: adding to a set of nested tuples. -/
namespace PL
open PySem PySem.Spec L2 PyProof.Rows
theorem pick_all {α : Type} : ∀ (L pre : List α), (List.range' pre.length L.length).filterMap (fun i => (pre ++ L)[i]?) = L
  | [], _ => rfl
  | x :: L, pre => by
    have ih := pick_all L (pre ++ [x])
    simp only [List.append_assoc, List.singleton_append, List.length_append, List.length_singleton] at ih
    rw [List.length_cons, List.range'_succ, List.filterMap_cons_some (b := x) (by simp), ih]
theorem pick_perm {α : Type} {L : List α} {o : List Nat} (h : o.Perm (List.range L.length)) : (o.filterMap fun i => L[i]?).Perm L := by
  have e := pick_all L []
  simp only [List.length_nil, List.nil_append] at e
  have p := h.filterMap fun i => L[i]?
  rw [List.range_eq_range', e] at p
  exact p
section
variable {P : Program} {w : World} {A : Around} {E : Value → Shared → Prop} {s : Shared} {h : Heap} {a : Addr} {L : List (Addr × NestedKey)} {es : Array (Int × Value)} {ep : Nat} {t : SetTable}
theorem nk_order {ord : Array Nat} (e : es.toList = nkRows w L) (hp : ord.toList.Perm (List.range L.length)) :
    ∃ L2, (ord.filterMap (es[·]?)).toList = nkRows w L2 ∧ L2.Perm L ∧ (L2.map fun y => y.2.hash w) = ord.toList.map fun i => (es.map (·.1)).getD i 0 := by
  have get : ∀ i : Nat, es[i]? = (L[i]?).map fun y => (y.2.hash w, Value.ref y.1) := fun i => by rw [← Array.getElem?_toList, e, List.getElem?_map]
  have both : ∀ l : List Nat, (∀ i ∈ l, i < L.length) → l.filterMap (fun i => es[i]?) = nkRows w (l.filterMap fun i => L[i]?) ∧ ((l.filterMap fun i => L[i]?).map fun y => y.2.hash w) = l.map fun i => (es.map (·.1)).getD i 0 := by
    intro l
    induction l with
    | nil => exact fun _ => ⟨rfl, rfl⟩
    | cons i l ih =>
      intro hl
      obtain ⟨i1, i2⟩ := ih fun j m => hl j (by simp [m])
      have lt := hl i (by simp)
      have at_i : L[i]? = some L[i] := List.getElem?_eq_getElem lt
      have es_i : es[i]? = some ((L[i]).2.hash w, Value.ref (L[i]).1) := by rw [get i, at_i, Option.map_some]
      constructor
      · rw [List.filterMap_cons_some es_i, List.filterMap_cons_some at_i, i1]
        rfl
      · rw [List.filterMap_cons_some at_i, List.map_cons, List.map_cons, i2]
        have : (es.map (·.1))[i]? = some ((L[i]).2.hash w) := by rw [Array.getElem?_map, es_i, Option.map_some]
        rw [Array.getD_eq_getD_getElem?, this, Option.getD_some]
  obtain ⟨b1, b2⟩ := both ord.toList fun i m => List.mem_range.mp (hp.mem_iff.mp m)
  exact ⟨_, by rw [Array.toList_filterMap]; exact b1, pick_perm hp, b2⟩
/-- a nested tuple has no set in it: it stays when a set changes -/
theorem NkAt.stay {h' : Heap} {k : NestedKey} {b : Addr} {o : Obj} (x : NkAt h k b) (ho : h.get? a = some o) (hd : o.data = .set es ep t) (hs : Heap.SameBut a h h') : NkAt h' k b := by
  refine ⟨NestedIs.at (fun c oc vs n hc dc => (hs.2 c fun e => ?_).trans hc) k _ x.1, x.2⟩
  subst e
  have same := Option.some.inj (hc.symm.trans ho)
  rw [← same, dc] at hd
  cases hd
/-- the table laid anew -/
theorem lay_anew {o : Obj} (ho : s.heap.get? a = some o) (hex : o.ExactSet) (hd : o.data = .set es ep t) (hr : es.toList = nkRows w L) (T : TabOk t (L.map fun y => y.2.hash w)) (once : (L.map (·.2)).Nodup)
    (mem : ∀ y ∈ L, NkAt s.heap y.2 y.1) (few : L.length < 64) (fits : L.length ≤ t.mask) {n M : Nat} (hn : SetTable.sizeAbove n = M + 1) (hM : MaskOk M) (hM2 : M < 128) (room : L.length * 5 < M * 3) {Q : Unit → Shared → Prop}
    (q : ∀ h' L' es' ep' t', Heap.SameBut a s.heap h' → NSet w h' a L' es' ep' t' → L'.Perm L → Q () { s with heap := h' }) : wpAny (model P w) A (setRelay a n) Q E s := by
  have len := nkRows_len hr
  have pl : t.place.size = L.length := by have := T.sz; rwa [List.length_map] at this
  have fit : t.fits es.size = true := by
    simp only [SetTable.fits, SetTable.fill, T.dm, Bool.and_eq_true, beq_iff_eq, decide_eq_true_eq]
    refine ⟨by omega, ?_⟩
    show t.place.size + 0 ≤ t.mask
    omega
  obtain ⟨t2, ord, laid, perm, T2, m2, -, -, -⟩ := relaid_ok t (hs := es.map (·.1)) (wanted := n) (M := M) (by rw [hn]; rfl) hM (by rw [Array.size_map, len]; omega)
  rw [Array.size_map, len] at perm
  obtain ⟨L2, r1, r2, r3⟩ := nk_order hr perm
  rw [← r3] at T2
  have len2 : (ord.filterMap (es[·]?)).size = es.size := by rw [nkRows_len r1, r2.length_eq, len]
  have line : sizeLine > 1000 := by rw [sizeLine_eq]; decide
  rw [setRelay_eq]
  refine wpAny_bind (wpAny_setState_of ho hd fit ?_)
  dsimp only
  refine wp_if_neg (by rw [hn]; omega) ?_
  try refine wpAny_bind (wpAny_pure ?_)
  rw [laid]
  dsimp only
  refine wpAny_bind (wp_if_neg (by rw [len2]; simp) ?_)
  try refine wpAny_bind (wpAny_pure ?_)
  refine wpAny_pure ?_
  dsimp only
  refine wpAny_storeSet_of ho hd ?_ (by rw [len2, len]; omega)
  have sb : Heap.SameBut a s.heap (s.heap.update a (Obj.putSet (ord.filterMap (es[·]?)) t2)) := Heap.SameBut.update ..
  exact q _ L2 _ (ep + 1) t2 sb ⟨⟨_, store_at ho hd, ⟨hex.1, hex.2.1, hex.2.2⟩, rfl⟩, r1, T2, (r2.map (·.2)).nodup_iff.mpr once, fun y m => (mem y (r2.mem_iff.mp m)).stay ho hd sb, by rw [r2.length_eq, m2]; exact room, by rw [r2.length_eq]; exact few⟩ r2
end
end PL

set_option linter.all false
set_option maxRecDepth 100000
set_option maxHeartbeats 4000000
/-! PL38: one nested tuple put into a set of such. -/
namespace PL
open PySem PySem.Spec L2 PyProof.Rows
section
variable {P : Program} {w : World} {A : Around} {E : Value → Shared → Prop} {s : Shared} {h : Heap} {a : Addr} {L : List (Addr × NestedKey)} {es : Array (Int × Value)} {ep : Nat} {t : SetTable}
/-- the last part of adding: the table with its new place is stored, and laid anew if it is too full -/
theorem put_rest {o : Obj} (ho : s.heap.get? a = some o) (hex : o.ExactSet) (hd : o.data = .set es ep t) {L1 : List (Addr × NestedKey)} {es1 : Array (Int × Value)} {t1 : SetTable} (hr : es1.toList = nkRows w L1)
    (T : TabOk t1 (L1.map fun y => y.2.hash w)) (once : (L1.map (·.2)).Nodup) (mem : ∀ y ∈ L1, NkAt s.heap y.2 y.1) (few : L1.length < 64) (was : (L1.length - 1) * 5 < t1.mask * 3) (one : 0 < L1.length)
    {n : Nat} (hn : n = L1.length) {Q : Bool → Shared → Prop} (q : ∀ h' L' es' ep' t', Heap.SameBut a s.heap h' → NSet w h' a L' es' ep' t' → L'.Perm L1 → Q true { s with heap := h' }) :
    wpAny (model P w) A (do
      storeSet a es1 t1
      if t1.tooFull then setRelay a (SetTable.grown n)
      return true) Q E s := by
  have len := nkRows_len hr
  have pl : t1.place.size = L1.length := by have := T.sz; rwa [List.length_map] at this
  have fill : t1.fill = L1.length := by
    simp only [SetTable.fill, T.dm]
    show t1.place.size + 0 = _
    omega
  have line : sizeLine > 1000 := by rw [sizeLine_eq]; decide
  refine wpAny_bind (wpAny_storeSet_of ho hd ?_ (by omega))
  have sb : Heap.SameBut a s.heap (s.heap.update a (Obj.putSet es1 t1)) := Heap.SameBut.update ..
  have ho1 := store_at (es' := es1) (t' := t1) ho hd
  have mem1 : ∀ y ∈ L1, NkAt (s.heap.update a (Obj.putSet es1 t1)) y.2 y.1 := fun y m => (mem y m).stay ho hd sb
  generalize s.heap.update a (Obj.putSet es1 t1) = h1 at sb ho1 mem1 ⊢
  have ex1 : ({ o with data := .set es1 (ep + 1) t1 } : Obj).ExactSet := ⟨hex.1, hex.2.1, hex.2.2⟩
  by_cases full : t1.tooFull = true
  · have lots : L1.length * 5 ≥ t1.mask * 3 := by
      have := full
      unfold SetTable.tooFull at this
      rwa [decide_eq_true_eq, fill] at this
    have two : (t1.mask = 7 ∧ L1.length = 5) ∨ (t1.mask = 31 ∧ L1.length = 19) := by
      rcases T.mok with e | e | e <;> rw [e] at lots was
      · exact .inl ⟨e, by omega⟩
      · exact .inr ⟨e, by omega⟩
      · omega
    have go : ∀ M, SetTable.sizeAbove (SetTable.grown n) = M + 1 → MaskOk M → M < 128 → L1.length * 5 < M * 3 → wpAny (model P w) A (setRelay a (SetTable.grown n)) (fun _ s' => wpAny (model P w) A (pure true) Q E s') E { s with heap := h1 } :=
      fun M m1 m2 m3 m4 => lay_anew (s := { s with heap := h1 }) ho1 ex1 rfl hr T once mem1 few (by rcases two with ⟨e, e2⟩ | ⟨e, e2⟩ <;> omega) m1 m2 m3 m4
        fun h2 L2 es2 ep2 t2 sb2 R2 pm => wpAny_pure (q h2 L2 es2 ep2 t2 (sb.trans sb2) R2 pm)
    refine wp_if_pos full ?_
    refine wpAny_bind ?_
    rcases two with ⟨_, e⟩ | ⟨_, e⟩
    · exact go 31 (by rw [hn, e, size_20]) (.inr (.inl rfl)) (by decide) (by omega)
    · exact go 127 (by rw [hn, e, size_76]) (.inr (.inr rfl)) (by decide) (by omega)
  · refine wp_if_neg full ?_
    refine wpAny_pure (q h1 L1 es1 (ep + 1) t1 sb ⟨⟨_, ho1, ex1, rfl⟩, hr, T, once, mem1, ?_, few⟩ (.refl _))
    have := full
    unfold SetTable.tooFull at this
    rw [decide_eq_true_eq, fill] at this
    omega
theorem put_mid (L : List (Addr × NestedKey)) (p : Nat) (y : Addr × NestedKey) : (L.take p ++ y :: L.drop p).Perm (y :: L) := by
  have := List.perm_middle (a := y) (l₁ := L.take p) (l₂ := L.drop p)
  rwa [List.take_append_drop] at this
theorem put_in (R : NSet w s.heap a L es ep t) {x : Addr} {k : NestedKey} (hx : NkAt s.heap k x) (hu : A.units + 8 < cLine) (few : L.length + 1 < 64) {Q : Bool → Shared → Prop}
    (q : ∀ b h' L' es' ep' t', Heap.SameBut a s.heap h' → NSet w h' a L' es' ep' t' → (k ∈ L.map (·.2) → L' = L) → (k ∉ L.map (·.2) → L'.Perm ((x, k) :: L)) → Q b { s with heap := h' }) :
    wpAny (model P w) A (setAddHashed a (.ref x) (k.hash w)) Q E s := by
  obtain ⟨o, ho, hex, hd⟩ := R.ob
  have len := R.len
  have room := R.room
  unfold setAddHashed
  refine wpAny_holding ?_
  rw [show (100000 : Nat) = 99999 + 1 from rfl, setAddHashedIn_succ]
  refine wpAny_bind (wpAny_setState_of ho hd R.fit ?_)
  dsimp only
  refine wp_if_neg (by simp [byScan, Value.scannable]) ?_
  try refine wpAny_bind (wpAny_pure ?_)
  refine wpAny_bind (seek_in R hx hu (fun hm => ?_) fun K hm free full => ?_)
  · exact wpAny_pure (q false s.heap L es ep t (.refl a s.heap) R (fun _ => rfl) fun z => absurd hm z)
  dsimp only
  refine wpAny_bind (wpAny_setState_of ho hd R.fit ?_)
  dsimp only
  obtain ⟨p1, p2, T, p4, -, -, -, -, -⟩ := R.tab.put free full
  have into : (SetTable.insertAt es (SetTable.below t.place (way t.mask (k.hash w) K)) (k.hash w, Value.ref x)).toList = nkRows w (L.take (SetTable.below t.place (way t.mask (k.hash w) K)) ++ (x, k) :: L.drop (SetTable.below t.place (way t.mask (k.hash w) K))) := by
    rw [SetTable.toList_insertAt, R.rows]
    simp [nkRows, List.map_take, List.map_drop]
  have same : ((L.take (SetTable.below t.place (way t.mask (k.hash w) K)) ++ (x, k) :: L.drop (SetTable.below t.place (way t.mask (k.hash w) K))).map fun y => y.2.hash w) = (L.map fun y => y.2.hash w).take (SetTable.below t.place (way t.mask (k.hash w) K)) ++ k.hash w :: (L.map fun y => y.2.hash w).drop (SetTable.below t.place (way t.mask (k.hash w) K)) := by
    simp [List.map_take, List.map_drop]
  rw [← same] at T
  have pm := put_mid L (SetTable.below t.place (way t.mask (k.hash w) K)) (x, k)
  rw [p1]
  generalize (t.put (way t.mask (k.hash w) K)).1 = t1 at T p4 ⊢
  generalize SetTable.insertAt es (SetTable.below t.place (way t.mask (k.hash w) K)) (k.hash w, Value.ref x) = es1 at into ⊢
  generalize L.take (SetTable.below t.place (way t.mask (k.hash w) K)) ++ (x, k) :: L.drop (SetTable.below t.place (way t.mask (k.hash w) K)) = L1 at T into pm
  have len1 : L1.length = L.length + 1 := pm.length_eq
  have once1 : (L1.map (·.2)).Nodup := by
    rw [(pm.map (·.2)).nodup_iff, List.map_cons]
    exact List.nodup_cons.mpr ⟨hm, R.once⟩
  have mem1 : ∀ y ∈ L1, NkAt s.heap y.2 y.1 := fun y m => by
    rcases List.mem_cons.mp (pm.mem_iff.mp m) with e | m
    · exact e ▸ hx
    · exact R.mem y m
  have rest : ∀ t2 : SetTable, TabOk t2 (L1.map fun y => y.2.hash w) → t2.mask = t.mask → wpAny (model P w) A (do
      storeSet a es1 t2
      if t2.tooFull then setRelay a (SetTable.grown (es.size + 1))
      return true) Q E s := fun t2 T2 m2 =>
    put_rest ho hex hd into T2 once1 mem1 (by omega) (by rw [m2, len1]; exact room) (by omega) (by omega) fun h' L' es' ep' t' sb R' pm' => q true h' L' es' ep' t' sb R' (fun z => absurd z hm) fun _ => pm'.trans pm
  have bare : TabOk { t1 with plain := false } (L1.map fun y => y.2.hash w) := ⟨T.ris, T.dm, T.sz, T.mok, T.bd, T.reach⟩
  by_cases pl : t1.plain = true
  · refine wp_if_pos pl (wpAny_bind (byv_key hx.1 hx.2 fun b => ?_))
    cases b with
    | false => simpa using rest _ bare p4
    | true => simpa using rest t1 T p4
  · refine wp_if_neg pl (wpAny_bind (wpAny_pure ?_))
    simpa using rest t1 T p4
end
end PL

set_option linter.all false
set_option maxRecDepth 100000
set_option maxHeartbeats 4000000
/-! PL39: set(xs) of a tuple of nested tuples. -/
namespace PL
open PySem PySem.Spec L2 PyProof.Rows
/-- L is what a set holds of the first i of ks -/
structure Held (ks : List (Addr × NestedKey)) (i : Nat) (L : List (Addr × NestedKey)) : Prop where
  only : ∀ y ∈ L, y ∈ ks.take i
  each : ∀ y ∈ ks.take i, y.2 ∈ L.map (·.2)
  size : L.length ≤ i
section
variable {ks L L' : List (Addr × NestedKey)} {i : Nat} {y : Addr × NestedKey}
theorem held_nil : Held ks 0 [] := ⟨fun _ m => (nomatch m), fun _ m => (by simp at m), Nat.le_refl _⟩
theorem held_step (g : Held ks i L) (e : ks[i]? = some y) (old : y.2 ∈ L.map (·.2) → L' = L) (new : y.2 ∉ L.map (·.2) → L'.Perm (y :: L)) : Held ks (i + 1) L' := by
  have tk : ks.take (i + 1) = ks.take i ++ [y] := by rw [List.take_add_one, e, Option.toList_some]
  by_cases m : y.2 ∈ L.map (·.2)
  · rw [old m]
    refine ⟨fun z hz => by rw [tk]; exact List.mem_append_left _ (g.only z hz), fun z hz => ?_, Nat.le_succ_of_le g.size⟩
    rw [tk, List.mem_append, List.mem_singleton] at hz
    rcases hz with a | rfl
    · exact g.each z a
    · exact m
  · have p := new m
    refine ⟨fun z hz => ?_, fun z hz => ?_, by rw [p.length_eq]; exact Nat.succ_le_succ g.size⟩
    · rw [tk, List.mem_append, List.mem_singleton]
      rcases List.mem_cons.mp (p.mem_iff.mp hz) with a | a
      · exact .inr a
      · exact .inl (g.only z a)
    · rw [(p.map (·.2)).mem_iff, List.map_cons, List.mem_cons]
      rw [tk, List.mem_append, List.mem_singleton] at hz
      rcases hz with a | rfl
      · exact .inr (g.each z a)
      · exact .inl rfl
end
section
variable {P : Program} {w : World} {A : Around} {E : Value → Shared → Prop} {s : Shared}
theorem NkAt.on {h h' : Heap} {k : NestedKey} {b : Addr} (x : NkAt h k b) (keep : ∀ c o, h.get? c = some o → h'.get? c = some o) : NkAt h' k b := ⟨NestedIs.at (fun c o _ _ hc _ => keep c o hc) k _ x.1, x.2⟩
theorem NSet.on {h h' : Heap} {a : Addr} {L : List (Addr × NestedKey)} {es : Array (Int × Value)} {ep : Nat} {t : SetTable} (R : NSet w h a L es ep t) (same : ∀ o, h.get? a = some o → h'.get? a = some o) (mem : ∀ y ∈ L, NkAt h' y.2 y.1) : NSet w h' a L es ep t :=
  let ⟨o, ho, r⟩ := R.ob
  ⟨⟨o, same o ho, r⟩, R.rows, R.tab, R.once, mem, R.room, R.few⟩
/-- a set that is new -/
abbrev bareSet (w : World) : Obj := { cls := .type "set", dict := none, data := .set #[] 0 (.fresh 0 0 (!w.params.followText "set-order")) }
theorem bare_nset {h : Heap} {a : Addr} (ho : h.get? a = some (bareSet w)) : NSet w h a [] #[] 0 (.fresh 0 0 (!w.params.followText "set-order")) :=
  ⟨⟨_, ho, ⟨rfl, rfl, rfl⟩, rfl⟩, rfl, ⟨.nil, rfl, rfl, .inl rfl, fun _ m => (nomatch m), fun i _ _ m => (by simp at m)⟩, List.nodup_nil, fun _ m => (nomatch m), show 0 * 5 < 7 * 3 by decide, show 0 < 64 by decide⟩
/-- the loop that fills it -/
theorem fill_loop {I : Addr} {fp wr : List Addr} {G : Array GenState → Array GenState → Prop} {n : Nat} {Pv : Nat → Value → Prop} {St : Nat → Shared → Prop} {R : Result → Shared → Prop} (W : WalksS P w A.in1 I fp wr G n Pv St) {S : Addr} (out : S ∉ fp)
    {ks : List (Addr × NestedKey)} (hn : n = ks.length) (few : ks.length < 64) (item : ∀ i v, Pv i v → ∃ y, ks[i]? = some y ∧ v = .ref y.1) {h0 : Heap} (mem : ∀ y ∈ ks, NkAt h0 y.2 y.1) (newS : h0.get? S = none) (neww : ∀ b ∈ wr, h0.get? b = none)
    (hu : A.in1.units + 8 < cLine) : ∀ (left i : Nat) (s : Shared), n - i = left → i ≤ n → St i s → (∀ b o, h0.get? b = some o → s.heap.get? b = some o) → (∃ L es ep t, NSet w s.heap S L es ep t ∧ Held ks i L) →
      (∀ s' L es ep t, Moved (S :: wr) G s s' → NSet w s'.heap S L es ep t → Held ks n L → (∀ b o, h0.get? b = some o → s'.heap.get? b = some o) → R (.ok (.ret .none)) s') →
      codeAny (model P w) A (.builtin "set.update.loop" ⟨[.ref S, .ref I], []⟩) R s := by
  have offw : S ∉ wr := fun m => out (W.sub _ m)
  have wider : ∀ b ∈ wr, b ∈ S :: wr := fun b m => .tail _ m
  have stays : ∀ {u v : Shared}, Moved wr G u v → (∀ b o, h0.get? b = some o → u.heap.get? b = some o) → ∀ b o, h0.get? b = some o → v.heap.get? b = some o :=
    fun mv f b o e => mv.heap b o (fun m => by rw [neww b m] at e; cases e) (f b o e)
  intro left
  induction left with
  | zero =>
    intro i s hl hi st f ⟨L, es, ep, t, R0, g⟩ fin
    obtain rfl : i = n := by omega
    refine codeAny_builtin F.entry_set_update_loop ?_
    rw [Around.under_plainId F.plain_set_update_loop _]
    refine show wpAny _ A.in1 (pyNext (.ref I) >>= _) _ _ s from wpAny_bind (W.done s _ _ st fun s' mv => ?_)
    refine show wpAny _ A.in1 (ret Value.none) _ _ s' from ?_
    have f' := stays mv f
    exact wpAny_pure (fin s' L es ep t (mv.mono wider) (R0.on (fun o e => mv.heap S o offw e) fun y m => (mem y (List.mem_of_mem_take (g.only y m))).on f') g f')
  | succ left ih =>
    intro i s hl hi st f ⟨L, es, ep, t, R0, g⟩ fin
    have lt : i < n := by omega
    refine codeAny_builtin F.entry_set_update_loop ?_
    rw [Around.under_plainId F.plain_set_update_loop _]
    refine show wpAny _ A.in1 (pyNext (.ref I) >>= _) _ _ s from wpAny_bind (W.item i s _ _ lt st fun v s' pv st' mv => ?_)
    obtain ⟨y, hy, rfl⟩ := item i v pv
    have f' := stays mv f
    have R1 : NSet w s'.heap S L es ep t := R0.on (fun o e => mv.heap S o offw e) fun z m => (mem z (List.mem_of_mem_take (g.only z m))).on f'
    have ny : NkAt s'.heap y.2 y.1 := (mem y (List.mem_of_getElem? hy)).on f'
    refine show wpAny _ A.in1 (holding [Value.ref y.1] (setAdd S (.ref y.1)) >>= _) _ _ s' from wpAny_bind (wpAny_holding ?_)
    unfold setAdd
    refine wpAny_holding (wpAny_bind (pyHash_key _ _ _ _ _ ny.1 (by have := ny.2; omega) ?_))
    refine put_in (s := { s' with toks := s'.toks + y.2.draws }) R1 ny hu (by have := g.size; omega) fun b h' L' es' ep' t' sb R2 c1 c2 => ?_
    have f2 : ∀ b o, h0.get? b = some o → h'.get? b = some o := fun b o e => (sb.2 b fun z => by rw [z, newS] at e; cases e).trans (f' b o e)
    refine wpAny_pure ⟨plainId_quiet F.plain_set_update_loop _, ih (i + 1) _ (by omega) lt (W.frame _ s' _ _ st' (Nat.le_add_right _ _) fun b m o e => ?_) f2 ⟨L', es', ep', t', R2, held_step g hy c1 c2⟩ fun s2 L2 es2 ep2 t2 mv2 R3 g3 f3 => ?_⟩
    · exact (sb.2 b fun z => out (z ▸ m)).trans e
    · exact fin s2 L2 es2 ep2 t2 (Moved.trans W.gtrans ((mv.mono wider).then_heap (Nat.le_add_right _ _) fun b o m e => (sb.2 b fun z => m (z ▸ List.mem_cons_self)).trans e) mv2) R3 g3 f3
end
end PL

set_option linter.all false
set_option maxRecDepth 100000
/-! PL40: the call set(xs), xs a tuple of nested tuples. -/
namespace PL
open PySem PySem.Spec L2 PyProof.Rows
section
variable {P : Program} {w : World} {A : Around} {E : Value → Shared → Prop} {s : Shared}
set_option maxHeartbeats 4000000 in
theorem call_set_nk {l : Addr} {us : Array Value} (ks : List (Addr × NestedKey)) {Q : Value → Shared → Prop} (hh : A.handled = none) (tup : s.heap.IsTuple l us) (eq : us.toList = ks.map fun y => Value.ref y.1) (mem : ∀ y ∈ ks, NkAt s.heap y.2 y.1)
    (few : ks.length < 64) (hu : A.units + 12 < cLine)
    (q : ∀ (h' : Heap) (tk : Nat) L es ep t, NSet w h' s.heap.objs.size L es ep t → Held ks ks.length L → (∀ b o, s.heap.get? b = some o → h'.get? b = some o) → Q (.ref s.heap.objs.size) { s with heap := h', toks := tk }) :
    wpAny (model P w) A (call (.type "set") [.ref l]) Q E s := by
  have size : us.size = ks.length := by
    have := congrArg List.length eq
    simpa using this
  obtain ⟨_, _, mro⟩ := F.called_set.mro
  have made := F.called_set.made
  have sub := F.called_set.sub
  have notT := F.called_set.notType
  have can := F.called_set.canCreate
  have typed := F.typeCall_set_1 (.ref l)
  refine wpAny_call (codeAny_of_tree (show wpAny _ _ (callAny (.type "set") _) _ _ _ from wpAny_pure ⟨Code.quiet_builtin _ (by decide +kernel), codeAny_builtin F.entry_type_call ?_⟩))
  rw [Around.under_plain (weight_type_call_type "set" [.ref l] []) rfl]
  repeat (any_goals (first | assumption | wp_step))
  refine codeAny_mono (code_set_led1 (.ref l) (E := E) (Q₁ := fun v z => v = .ref s.heap.objs.size ∧ z = { s with heap := s.heap.push (bareSet w) }) ⟨rfl, rfl⟩) fun r z hr => ?_
  rcases r with e | fl
  · exact hr
  cases fl with
  | ret v =>
    obtain ⟨rfl, rfl⟩ := hr
    have here : (s.heap.push (bareSet w)).get? s.heap.objs.size = some (bareSet w) := Heap.get?_push_size _ rfl
    have ty : Shared.TypeIs { s with heap := s.heap.push (bareSet w) } (.ref s.heap.objs.size) "set" := ⟨_, here, rfl⟩
    have li := F.called_set.init.lookup
    have bi := F.called_set.init.bind (.ref s.heap.objs.size)
    repeat (any_goals (first | assumption | wp_step))
    refine codeAny_mono (codeAny_call_builtin (R := wants (fun r z => r = .none ∧ ∃ h' tk L es ep t, z = { s with heap := h', toks := tk } ∧ NSet w h' s.heap.objs.size L es ep t ∧ Held ks ks.length L ∧ ∀ b o, s.heap.get? b = some o → h'.get? b = some o) E)
      F.called_set.init.plain F.entry_set_init (check_set_init_1 ty ?_)) fun r2 z2 hr2 => ?_
    · obtain ⟨⟨oc, odi, oda, osl⟩, ho, hc, n, hd⟩ := tup
      simp only at hc hd
      subst hc
      subst hd
      have got : (s.heap.push (bareSet w)).get? l = some { cls := .type "tuple", dict := odi, data := .seq us n, slots := osl } := Heap.get?_push_of_some _ ho
      have no1 := F.sub_tuple_set
      have no2 := F.sub_tuple_frozenset
      have no3 : (Value.type "tuple" == Value.type "dict") = false := by decide
      have tup1 : (s.heap.push (bareSet w)).IsTuple l us := ⟨_, got, rfl, n, rfl⟩
      have ls : l < s.heap.objs.size := Heap.lt_size ho
      have sz : (s.heap.push (bareSet w)).objs.size = s.heap.objs.size + 1 := Heap.size_push ..
      have empty : ∀ b, s.heap.objs.size ≤ b → s.heap.get? b = none := fun b m => by
        rcases e : s.heap.get? b with _ | o
        · rfl
        · exact absurd (Heap.lt_size e) (Nat.not_lt_of_le m)
      unfold Builtin.«set.__init__» noKeywords Builtin.Frozenset.updateFrom
      generalize hit : pyIter = iter
      wp_walk
      subst hit
      refine wpAny_pyIter_tuple tup1 (wpAny_bind (wpAny_runValue ?_))
      have quiet : A.in1.in1.in1.handled = none := by simp [hh]
      have apart : l ≠ (s.heap.push (bareSet w)).objs.size := fun e => Nat.ne_of_lt (Nat.lt_succ_of_lt ls) (e.trans sz)
      have outS : s.heap.objs.size ∉ [(s.heap.push (bareSet w)).objs.size, l] := fun m => by
        rcases List.mem_cons.mp m with e | m
        · exact Nat.ne_of_lt (Nat.lt_succ_self _) (e.trans sz)
        · exact Nat.ne_of_gt ls (List.mem_singleton.mp m)
      refine fill_loop ((Walks.tuple quiet _ l apart us).toS) (S := s.heap.objs.size) outS size few (fun i v hv => ?_) mem (empty _ (Nat.le_refl _)) (fun b m => empty b (by rw [List.mem_singleton.mp m, sz]; exact Nat.le_succ _))
        ?room (us.size - 0) 0 _ rfl (Nat.zero_le _) ⟨⟨_, Heap.get?_push_size _ rfl, rfl, rfl⟩, tup1.push _⟩ (fun b o e => Heap.get?_push_of_some _ (Heap.get?_push_of_some _ e)) ⟨[], #[], 0, _, bare_nset (Heap.get?_push_of_some _ here), held_nil⟩ fun s' L es ep t mv R g f => ?_
      case room => show A.units + 1 + 1 + 1 + 8 < cLine; omega
      · have e : us.toList[i]? = some v := by rw [Array.getElem?_toList]; exact hv
        rw [eq, List.getElem?_map] at e
        obtain ⟨y, e1, e2⟩ := Option.map_eq_some_iff.mp e
        exact ⟨y, e1, e2.symm⟩
      · obtain ⟨h', g2, d', tk', os'⟩ := s'
        have e1 : g2 = s.gens := mv.gens
        have e2 : d' = s.drawn := mv.drawn
        have e3 : os' = s.os := mv.os
        subst e1 e2 e3
        refine show wpAny _ _ _ _ _ _ from wpAny_pure (show wpAny _ _ (ret Value.none) _ _ _ from ?_)
        rw [size] at g
        exact wpAny_pure ⟨rfl, h', tk', L, es, ep, t, rfl, R, g, f⟩
    · rcases r2 with e | fl2
      · exact hr2
      cases fl2 with
      | ret v =>
        obtain ⟨rfl, h', tk, L, es, ep, t, rfl, R, g, f⟩ := hr2
        repeat (any_goals (first | assumption | wp_step))
        exact q _ _ _ _ _ _ R g f
      | _ => exact hr2.elim
  | _ => exact hr.elim
end
end PL

set_option linter.all false
set_option maxRecDepth 100000
set_option maxHeartbeats 4000000
/-! PL41: len(set(xs)) of a tuple of nested tuples. -/
namespace PL
open PySem PySem.Spec L2 PyProof.Rows
def keysN : List D → Option (List NestedKey)
  | [] => some []
  | d :: ds => (keyN d).bind fun k => (keysN ds).map (k :: ·)
def nubN : List NestedKey → List NestedKey
  | [] => []
  | k :: ks => if k ∈ ks then nubN ks else k :: nubN ks
def lsetM : D → M D
  | .tup ds => (opt (keysN ds)).bind fun ks => guardM (decide (ks.length < 64)) (M.pure (.int (nubN ks).length))
  | _ => M.bad
theorem mem_nubN {k : NestedKey} : ∀ {ks : List NestedKey}, k ∈ nubN ks ↔ k ∈ ks
  | [] => Iff.rfl
  | x :: ks => by
    unfold nubN
    by_cases h : x ∈ ks
    · rw [if_pos h, mem_nubN, List.mem_cons]
      exact ⟨.inr, fun z => z.elim (fun e => e ▸ h) id⟩
    · rw [if_neg h, List.mem_cons, List.mem_cons, mem_nubN]
theorem nodup_nubN : ∀ (ks : List NestedKey), (nubN ks).Nodup
  | [] => .nil
  | x :: ks => by
    unfold nubN
    by_cases h : x ∈ ks
    · rw [if_pos h]; exact nodup_nubN ks
    · rw [if_neg h]; exact List.nodup_cons.mpr ⟨fun m => h (mem_nubN.mp m), nodup_nubN ks⟩
theorem fewer {α : Type} [DecidableEq α] : ∀ {l m : List α}, l.Nodup → (∀ x ∈ l, x ∈ m) → l.length ≤ m.length
  | [], _, _, _ => Nat.zero_le _
  | x :: l, m, n, sub => by
    have mx := sub x List.mem_cons_self
    obtain ⟨n1, n2⟩ := List.nodup_cons.mp n
    have := fewer (m := m.erase x) n2 fun y hy => (List.mem_erase_of_ne (by rintro rfl; exact n1 hy)).mpr (sub y (List.mem_cons_of_mem _ hy))
    rw [List.length_erase_of_mem mx] at this
    have pos := List.length_pos_of_mem mx
    rw [List.length_cons]
    omega
theorem keysN_len : ∀ {ds : List D} {ks : List NestedKey}, keysN ds = some ks → ks.length = ds.length
  | [], _, e => by cases e; rfl
  | d :: ds, _, e => by
    obtain ⟨k, _, e⟩ := Option.bind_eq_some_iff.mp e
    obtain ⟨ks, e2, rfl⟩ := Option.map_eq_some_iff.mp e
    rw [List.length_cons, List.length_cons, keysN_len e2]
section
variable {X : Cx} {E : XK} {H0 : Hp} {pins : List (Addr × Obj)} {σ : L2.St} {H G : Hp} {μ : Mu} {s : Shared} {a : Expr} {f : En → M D} {p p2 q pos : Pos}
theorem refs_keys (I : Inv X pins σ H s) (g : Sub G H) : ∀ {ds : List D} {vs : List V} {ks : List NestedKey} {us : List Value}, RepL X.K G μ vs ds → keysN ds = some ks → Vals vs us →
    ∃ ys : List (Addr × NestedKey), us = ys.map (fun y => Value.ref y.1) ∧ ys.map (·.2) = ks ∧ ∀ y ∈ ys, NkAt s.heap y.2 y.1
  | [], _, _, _, .nil, e, r => by
    cases e
    cases r
    exact ⟨[], rfl, rfl, fun _ m => nomatch m⟩
  | d :: ds, _, _, _, .cons h t, e, r => by
    obtain ⟨k, e1, e⟩ := Option.bind_eq_some_iff.mp e
    obtain ⟨ks, e2, rfl⟩ := Option.map_eq_some_iff.mp e
    cases r with
    | cons r1 r2 =>
      obtain ⟨ys, y1, y2, y3⟩ := refs_keys I g t e2 r2
      obtain ⟨b, rfl⟩ := rep_key_ref h e1
      obtain ⟨_, n1, n2⟩ := keyN_tup e1
      obtain rfl : _ = Value.ref b := r1
      refine ⟨(b, k) :: ys, by rw [List.map_cons, y1], by rw [List.map_cons, y2], fun y m => ?_⟩
      rcases List.mem_cons.mp m with rfl | m
      · exact ⟨rep_nk I g h n1 rfl, n2⟩
      · exact y3 y m
theorem je_lenSetN (hc : X.calm = true) (hu : X.A.units + 65 < cLine) (hg : Gl X "len") (hm : X.mg "len" = none) (hg2 : Gl X "set") (hm2 : X.mg "set" = none) (ha : JE X E H0 f a)
    (na : starEach [a] X.env = (false, eval a X.env) :: starEach [] X.env := by rfl) : JE X E H0 (e1 lsetM f) (.Call (.Name "len" p) [.Call (.Name "set" p2) [a] [] q] [] pos) := by
  refine ⟨fun pins s σ H Q I ⟨G, μ, st, ρ, w, er, k⟩ => ?_⟩
  refine Call_ (ld_blt I hg hm PySem.boot_len (callWith_builtin1 (args_cons ?_ rfl) rfl rfl))
  refine Call_ (ld_blt I hg2 hm2 boot_set ?_)
  refine callWith_type1 (args_cons (thn (ha.run pins s σ H (fun x H1 => ∃ G1 μ1 st1 dx, Wd X.w X.K H1 G1 μ1 st1 ∧ Rep X.K G1 μ1 x dx ∧ Post X.w X.K X.mg E (rRep X.K) H1 G1 μ1 (lsetM dx st1) Q) I
    ⟨G, μ, st, ρ, w, er, Post.bind k fun dx st1 x H1 G1 μ1 w1 s1 r1 k1 => ⟨G1, μ1, st1, dx, w1, r1, k1⟩⟩) fun v s1 ⟨x, H1, I1, rx, G1, μ1, st1, dx, w1, r1, k1⟩ => args_nil ?_) na) na rfl
  cases r1 with
  | tup ht rr =>
    rename_i l vs ds
    obtain ⟨ks, hk, k1⟩ := Post.opt k1
    obtain ⟨lt, k1⟩ := Post.guard k1
    have lt := of_decide_eq_true lt
    obtain rfl : v = Value.ref l := rx
    obtain ⟨us, rv, tup, _⟩ := I1.tuple (w1.imm.sqT ht)
    obtain ⟨ys, y1, y2, y3⟩ := refs_keys I1 w1.imm rr hk rv
    have ylen : ys.length = ks.length := by rw [← y2, List.length_map]
    refine call_set_nk ys (I1.ok.hd hc) tup (by simpa using y1) y3 (by omega) (by omega) fun h' tk L es ep t R g keep => args_nil ?_
    obtain ⟨o, ho, hex, hd⟩ := R.ob
    have I2 : Inv X pins σ H1 { s1 with heap := h', toks := tk } := I1.kept fun b o e => keep b o e
    have same : es.size = (nubN ks).length := by
      rw [R.len, ← List.length_map (as := L) (·.2)]
      refine Nat.le_antisymm (fewer R.once fun k m => ?_) (fewer (nodup_nubN ks) fun k m => ?_)
      · obtain ⟨y, ym, rfl⟩ := List.mem_map.mp m
        rw [mem_nubN, ← y2]
        exact List.mem_map_of_mem (List.mem_of_mem_take (g.only y ym))
      · rw [mem_nubN, ← y2] at m
        obtain ⟨y, ym, rfl⟩ := List.mem_map.mp m
        exact g.each y (by rw [List.take_length]; exact ym)
    have small := R.few
    have len := R.len
    refine call_len_set ho hex hd R.fit (by omega) ⟨.int (nubN ks).length, H1, I2.tok _, ⟨_, by rw [same]⟩, k1 _ _ _ _ w1 .refl (.int _)⟩
  | _ => exact k1.elim
end
end PL

set_option linter.all false
set_option maxRecDepth 100000
set_option maxHeartbeats 4000000
/-! PG10: a drawn program's rows stand by their names. -/
namespace PG
open PySem PySem.Spec L2 PL
def h0 : D → D
  | .tup (a :: _) => a
  | _ => .non
def Odn (ds : List D) : Prop := ∃ ns : List Str, ds = ns.map D.str ∧ ns.Pairwise fun a b => leS a b = true
def Pr2 (d : D) : Prop := ∃ ps cs, (∀ p ∈ ps, Pa p) ∧ ps.length ≤ 4 ∧ (∀ c ∈ cs, Ch c) ∧ cs.length ≤ 20 ∧ Odn (ps.map h0) ∧ Odn (cs.map h0) ∧ d = .tup [.tup ps, .tup cs]
theorem w_sortedO {xs : List D} {R : D → Sto → Prop} {st : Sto} (h : ∀ x ∈ xs, NmD x) (hl : xs.length < 64) (k : ∀ ss : List Str, (∀ y ∈ ss, Nm y) → (ss.Pairwise fun a b => leS a b = true) → ss.length = xs.length → R (.lst (ss.map D.str)) st) : wp (sortedM (.lst xs)) R st := by
  show wp (guardM (decide (xs.length < 64)) _) R st
  rw [wp_guard]
  refine ⟨decide_eq_true hl, ?_⟩
  cases xs with
  | nil =>
    have e : sortI [] = [] := by simp [sortI]
    show wp (M.pure (D.lst ((sortI []).map D.int))) R st
    rw [wp_pure, e]
    exact k [] (fun _ h => absurd h List.not_mem_nil) .nil rfl
  | cons x r =>
    obtain ⟨y, rfl, hy⟩ := h x List.mem_cons_self
    obtain ⟨ss, e, hss, hsl⟩ := nms h
    show wp ((opt (strsD (.str y :: r))).bind fun xs => M.pure (D.lst ((sortS xs).map D.str))) R st
    rw [wp_bind, e, wp_some, wp_pure]
    refine k _ (fun z hz => hss z ((List.mergeSort_perm ss leS).mem_iff.mp hz)) (List.pairwise_mergeSort leS_trans leS_total ss) ?_
    rw [← hsl]
    exact (List.mergeSort_perm ss leS).length_eq
section
variable {i : Nat} {te : En → M D} {ρ : En}
/-- each name gives a row of that name -/
theorem lc_nam (hi : i < ρ.length) (P : D → Prop) (F : Sto → Prop) : ∀ (ds : List D) (st : Sto) {R : List D → Sto → Prop}, (∀ d ∈ ds, ∀ s, F s → wp (te (ρ.set i (.val d))) (fun y s' => (P y ∧ h0 y = d) ∧ F s') s) → F st →
    (∀ out s', out.map h0 = ds → (∀ y ∈ out, P y) → F s' → R out s') → wp (lcL (Pt.nm i).set tTrue te ρ ds) R st
  | [], st, R, _, hF, k => by unfold lcL; rw [wp_pure]; exact k [] st rfl (fun _ h => absurd h List.not_mem_nil) hF
  | d :: ds, st, R, hs, hF, k => by
    unfold lcL
    rw [set_nm hi]
    show wp ((te (ρ.set i (.val d))).bind fun y => (lcL (Pt.nm i).set tTrue te ρ ds).bind fun ys => M.pure (y :: ys)) R st
    rw [wp_bind]
    refine wp_mono (hs d List.mem_cons_self st hF) fun y s1 ⟨⟨hy, hn⟩, hF1⟩ => ?_
    rw [wp_bind]
    refine lc_nam hi P F ds s1 (R := fun ys s => wp (M.pure (y :: ys)) R s) (fun e he => hs e (List.mem_cons_of_mem _ he)) hF1 fun out s' hl hP hF' => ?_
    rw [wp_pure]
    exact k (y :: out) s' (by rw [List.map_cons, hl, hn]) (fun z hz => by
      rcases List.mem_cons.mp hz with e | e
      · rw [e]; exact hy
      · exact hP z e) hF'
end
theorem spec_built2 {n : Nat} {st : Sto} {Q : D → Sto → Prop} (h : FOk n st) (q : ∀ x st', Pr2 x → FOk n st' → Same n st st' → Q x st') : wp (m_law_built [.ref n]) Q st := by
  refine w_run' [.val (.ref n), .no, .no, .no, .no, .no, .no, .no, .no, .no, .no] rfl ?_
  unfold s_law_built
  subst_eqs
  refine ⟨by show 8 ≤ sizeLine; decide, ?_⟩
  subst_eqs
  refine ⟨rfl, spec_draw h (by decide) (by decide) fun z s1 a1 b1 f1 sm1 => ?_⟩
  obtain ⟨dm, hdm, hdmem⟩ := atI_lt (xs := [D.int 3, .int 2, .int 4, .int 2, .int 3, .int 1, .int 0, .int 2]) a1 b1
  refine w_ixL hdm ?_
  obtain ⟨many, rfl, m0, m1⟩ : ∃ i : Int, dm = .int i ∧ 0 ≤ i ∧ i ≤ 4 := by
    simp only [List.mem_cons, List.not_mem_nil, or_false] at hdmem
    rcases hdmem with rfl | rfl | rfl | rfl | rfl | rfl | rfl | rfl <;> exact ⟨_, rfl, by decide, by decide⟩
  subst_eqs
  refine ⟨rfl, spec_names f1 m0 (by omega) fun fk s2 hfk hfl f2 sm2 => ?_⟩
  refine w_sortedO hfk (by omega) fun fs0 hfs0 hord hfl0 => ?_
  have hfolk : ∀ x ∈ fs0.map D.str, NmD x := fun x hx => by
    obtain ⟨y, hy, rfl⟩ := List.mem_map.mp hx
    exact ⟨y, rfl, hfs0 y hy⟩
  have hfolkl : (fs0.map D.str).length = fk.length := by rw [List.length_map]; exact hfl0
  have hfo : Odn (fs0.map D.str) := ⟨fs0, rfl, hord⟩
  generalize fs0.map D.str = folk at hfolk hfolkl hfo
  subst_eqs
  refine ⟨rfl, spec_names f2 (by decide) (by decide) fun ways s3 hw hwl f3 sm3 => ?_⟩
  subst_eqs
  refine ⟨rfl, spec_names f3 (by decide) (by decide) fun lets s4 hle hlel f4 sm4 => ?_⟩
  subst_eqs
  refine ⟨rfl, spec_spots f4 fun spots s5 hsp hspn hspl f5 sm5 => ?_⟩
  subst_eqs
  refine ⟨by show 3 ≤ sizeLine; decide, [.val (.ref n), .val (.lst folk), .val (.lst ways), .val (.lst lets), .val (.lst spots), .no, .no, .no, .no, .no, .no], by simp [Pt.set, setAll], ?_⟩
  have hfl5 : folk.length ≤ 4 := by omega
  have sm15 := (((sm1.trans sm2).trans sm3).trans sm4).trans sm5
  -- behind the choice of the ways
  have main : ∀ (ws : List D) (s : Sto), (∀ w ∈ ws, NmD w) → ws.length ≤ 10 → FOk n s → Same n st s → wp (sSeq (sOwn 6 (fLst (aNil))) (sSeq (sFor (iSeq (e1 sortedM (eSl (eVar 2) oNo (oSo (eIf (tBl (e2 gtM (e1 lenM (eVar 1)) (eC (.int 1)))) (e2 ixM (eLst (aCons (eC (.int 2)) (aCons (eC (.int 3)) (aCons (eC (.int 1)) (aCons (eC (.int 4)) (aCons (eC (.int 0)) (aCons (eC (.int 6)) (aNil)))))))) (eCall 2 m_law_draw (aCons (eVar 0) (aCons (eC (.int 6)) (aNil))))) (eC (.int 0))))))) (.nm 5) (sSeq (sSet 7 (eCall 2 m_law_draw (aCons (eVar 0) (aCons (e1 lenM (eVar 1)) (aNil))))) (sSeq (sSet 8 (e2 modM (e1 intM (e2 addM (e2 addM (eVar 7) (eC (.int 1))) (eCall 2 m_law_draw (aCons (eVar 0) (aCons (e2 subM (e1 lenM (eVar 1)) (eC (.int 1))) (aNil)))))) (e1 lenM (eVar 1)))) (sApp 6 (eTup (aCons (eVar 5) (aCons (e2 ixM (eVar 1) (eVar 7)) (aCons (e2 ixM (eVar 1) (eVar 8)) (aCons (eCall 2 m_law_pick (aCons (eVar 0) (aCons (eLst (aCons (eC (.str "queue")) (aCons (eC (.str "bag")) (aCons (eC (.str "call")) (aNil))))) (aNil)))) (aNil)))))))))) (sSeq (sFrz 6 (sSet 9 (eL (eLc (iSeq (eVar 1)) (.nm 10) [10] (tTrue) (eCall 4 m_law_party (aCons (eVar 0) (aCons (eVar 10) (aCons (eCall 3 m_law_doings (aCons (eVar 10) (aCons (eVar 6) (aCons (eVar 3) (aNil))))) (aCons (eVar 4) (aNil)))))))))) (sRet (eTup (aCons (e1 tupM (eVar 9)) (aCons (e1 tupM (eLook 6)) (aNil))))))) [.val (.ref n), .val (.lst folk), .val (.lst ws), .val (.lst lets), .val (.lst spots), .no, .no, .no, .no, .no, .no]) (RunK Q) s := by
    intro ws s hws hwl fs sms
    subst_eqs
    refine ⟨by decide, ?_⟩
    refine k_seq (w_seq (w_for ?_))
    refine wp_mono (Q := fun ds s' => (∀ d ∈ ds, NmD d) ∧ ds.length ≤ 10 ∧ (ds ≠ [] → 1 < folk.length) ∧ Odn ds ∧ FOk n s' ∧ Same n st s') ?_ fun ds s' ⟨hds, hdl, hd1, hdo, fs', sms'⟩ => ?_
    · subst_eqs
      refine k_if (fun hb => ?_) fun hb => ?_
      · have hb' : 1 < folk.length := by have := of_decide_eq_true hb; omega
        subst_eqs
        refine ⟨by show 6 ≤ sizeLine; decide, ?_⟩
        subst_eqs
        refine ⟨rfl, spec_draw fs (by decide) (by decide) fun z t a b ft smt => ?_⟩
        obtain ⟨dm, hdm, hdmem⟩ := atI_lt (xs := [D.int 2, .int 3, .int 1, .int 4, .int 0, .int 6]) a b
        refine w_ixL hdm ?_
        obtain ⟨i, rfl⟩ : ∃ i : Int, dm = .int i := by
          simp only [List.mem_cons, List.not_mem_nil, or_false] at hdmem
          rcases hdmem with rfl | rfl | rfl | rfl | rfl | rfl <;> exact ⟨_, rfl⟩
        subst_eqs
        refine w_sortedO (fun x hx => hws x (cut_mem hx)) (by have := cut_len ws none (some i); omega) fun ys hys hyo hyl => ?_
        exact ⟨_, rfl, fun x hx => (by
          obtain ⟨y, hy, rfl⟩ := List.mem_map.mp hx
          exact ⟨y, rfl, hys y hy⟩), by rw [List.length_map, hyl]; have := cut_len ws none (some i); omega, fun _ => hb', ⟨ys, rfl, hyo⟩, ft, sms.trans smt⟩
      · subst_eqs
        refine w_sortedO (fun x hx => hws x (cut_mem hx)) (by have := cut_len ws none (some 0); omega) fun ys hys hyo hyl => ?_
        have e0 : (cutD ws none (some 0)).length = 0 := by
          unfold cutD
          rw [HT.sIx_none]
          show (List.take (HT.sIx ws.length ws.length (some ((0 : Nat) : Int)) - 0) _).length = 0
          rw [HT.sIx_nat]
          simp
        have hy0 : ys = [] := List.eq_nil_of_length_eq_zero (by omega)
        subst hy0
        exact ⟨[], rfl, fun _ h => absurd h List.not_mem_nil, by decide, fun hne => absurd rfl hne, ⟨[], rfl, hyo⟩, fs, sms⟩
    · refine for_each (fun j ρ s => ∃ x5 x7 x8 out, ρ = [.val (.ref n), .val (.lst folk), .val (.lst ws), .val (.lst lets), .val (.lst spots), x5, .own out, x7, x8, .no, .no] ∧ (∀ x ∈ out, Ch x) ∧ out.length = j ∧ out.map h0 = ds.take j ∧ FOk n s ∧ Same n st s) _ 0 _ _ ?_ ?_ ?_
      · rintro m d ρ s hm ⟨x5, x7, x8, out, rfl, hout, hlen, hnam, f0, sm0⟩
        have hmm := (List.getElem?_eq_some_iff.mp hm).1
        have h2 := hd1 (fun e => by rw [e] at hmm; exact absurd hmm (Nat.not_lt_zero _))
        have hdn := hds d (List.mem_of_getElem? hm)
        refine ⟨_, set_nm (by simp), ?_⟩
        subst_eqs
        refine ⟨rfl, spec_draw f0 (by omega) (by omega) fun z t a b ft smt => ?_⟩
        subst_eqs
        refine ⟨rfl, ?_⟩
        refine spec_draw ft (by show (0 : Int) < (folk.length : Int) - 1; omega) (by show (folk.length : Int) - 1 < 1073741824; omega) fun z2 t2 a2 b2 ft2 smt2 => ?_
        subst_eqs
        refine w_int2 (decide_eq_true (by omega)) ?_
        obtain ⟨p1, hp1, hm1⟩ := atI_lt (xs := folk) a b
        obtain ⟨p2, hp2, hm2⟩ := atI_lt (xs := folk) (Int.emod_nonneg (z + 1 + z2) (by omega)) (Int.emod_lt_of_pos (z + 1 + z2) (by omega))
        subst_eqs
        refine w_ixL hp1 ?_
        subst_eqs
        refine w_ixL hp2 ?_
        subst_eqs
        refine ⟨by show 3 ≤ sizeLine; decide, ?_⟩
        subst_eqs
        refine ⟨rfl, spec_pick ft2 (by decide) (by decide) fun fo t3 hfo ft3 smt3 => ?_⟩
        subst_eqs
        refine ⟨by show 4 ≤ sizeLine; decide, small (by omega), rfl, _, _, _, _, rfl, fun x hx => ?_, by rw [List.length_append]; simp; omega, by rw [Nat.zero_add] at hnam ⊢; rw [List.map_append, hnam, List.take_add_one, hm]; rfl, ft3, ((sm0.trans smt).trans smt2).trans smt3⟩
        rcases List.mem_append.mp hx with h | h
        · exact hout x h
        · rw [List.mem_singleton.mp h]
          simp only [List.mem_cons, List.not_mem_nil, or_false] at hfo
          rcases hfo with rfl | rfl | rfl
          · exact ⟨_, _, _, _, hdn, hfolk p1 hm1, hfolk p2 hm2, .inl rfl, rfl⟩
          · exact ⟨_, _, _, _, hdn, hfolk p1 hm1, hfolk p2 hm2, .inr (.inl rfl), rfl⟩
          · exact ⟨_, _, _, _, hdn, hfolk p1 hm1, hfolk p2 hm2, .inr (.inr rfl), rfl⟩
      · exact ⟨_, _, _, [], rfl, fun _ h => absurd h List.not_mem_nil, rfl, rfl, fs', sms'⟩
      · rintro ρ s ⟨x5, x7, x8, out, rfl, hout, hlen, hnam, f0, sm0⟩
        rw [Nat.zero_add, List.take_length] at hnam
        refine k_seq (w_seq (w_frz (w_set (by simp [frz1]) (w_eL (w_lc ?_)))))
        refine w_iSeq (w_var rfl ⟨_, rfl, ?_⟩)
        refine lc_nam (by simp [wipeE, frz1]) Pa (fun s' => FOk n s' ∧ Same n s s') _ _ (fun d hd s3 ⟨f3, sm3⟩ => ?_) ⟨f0, Same.refl _ _⟩ fun ps s4 hpn hps ⟨f4, sm4⟩ => ?_
        · subst_eqs
          refine ⟨rfl, spec_doings (hfolk d hd) hout (by omega) hle (by rw [hlel]; decide) (by rw [hlel]; decide) fun dos hdos hdne hdl => ?_⟩
          subst_eqs
          refine ⟨rfl, spec_party f3 (hfolk d hd) hdos hdne hdl hsp hspn hspl fun x st' hx ⟨_, _, e⟩ fx smx => ⟨⟨hx, by rw [e]; rfl⟩, fx, sm3.trans smx⟩⟩
        · subst_eqs
          refine ⟨by show 2 ≤ sizeLine; decide, ?_⟩
          subst_eqs
          have hpl : ps.length = folk.length := by rw [← hpn, List.length_map]
          exact q _ s4 ⟨ps, out, hps, by omega, hout, by omega, by rw [hpn]; exact hfo, by rw [hnam]; exact hdo, rfl⟩ f4 (sm0.trans sm4)
  subst_eqs
  refine ⟨rfl, spec_draw f5 (by decide) (by decide) fun z6 s6 a6 b6 f6 sm6 => ?_⟩
  subst_eqs
  refine w_eq shp_int.shp shp_int.shp ?_
  refine k_bl (k_if (fun _ => ?_) fun _ => ?_)
  · refine w_set (by simp) ?_
    have shfolk : (D.lst folk).shp = true := list_shp fun x hx => nmd_shp (hfolk x hx)
    subst_eqs
    refine ⟨_, rfl, ?_⟩
    refine lc_filter (by simp [wipeE]) (fun d => !folk.any fun z => z.eqv d) _ _ (fun d hd T k => ?_) ?_
    · subst_eqs
      exact w_notIn rfl (nmd_shp (hw d hd)).shp shfolk (k_bl k)
    · have hlf : (List.filter (fun d => !folk.any fun z => z.eqv d) ways).length ≤ 6 := Nat.le_trans (List.length_filter_le _ _) (by rw [hwl]; decide)
      refine w_addL (small (by omega)) ?_
      refine k_seq (main _ s6 (fun w hw' => ?_) (by rw [List.length_append]; omega) f6 (sm15.trans sm6))
      rcases List.mem_append.mp hw' with h | h
      · exact hfolk w h
      · exact hw w (List.mem_filter.mp h).1
  · exact w_nil (k_seq (main ways s6 hw (by rw [hwl]; decide) f6 (sm15.trans sm6)))
end PG

set_option linter.all false
set_option maxRecDepth 100000
set_option maxHeartbeats 4000000
namespace LK
open PySem PySem.Spec L2 PL
def topS (i : Nat) : Stmt := PySem.Challenge.pw_ascalls_k01_kinds.main.body.getD i (.Pass ⟨0, 0, 0, 0⟩)
structure Blt (mg : Str → Option Value) : Prop where
  len : mg "len" = none
  all : mg "all" = none
  any : mg "any" = none
  range : mg "range" = none
  isinstance : mg "isinstance" = none
  int : mg "int" = none
  str : mg "str" = none
  tuple : mg "tuple" = none
  bool : mg "bool" = none
  list : mg "list" = none
  set : mg "set" = none
  sorted : mg "sorted" = none
  enumerate : mg "enumerate" = none
  sum : mg "sum" = none
section
variable {P : Program} {w : World} {K : PySem.W.Frag} {mg : Str → Option Value} {base : Heap}
theorem sc_is_integer : FnScope ["thing"] ["thing"] (defScope (topS 3)) := ⟨rfl, rfl, rfl, by decide +kernel, rfl, by decide +kernel, by decide +kernel⟩
def s_is_integer : En → M (Fl × En) := sRet (vAnd (e1 (isiM "int") (eVar 0)) (vNot (e1 (isiM "bool") (eVar 0))))
def m_is_integer : List D → M D := runB 1 s_is_integer
theorem d_is_integer (F : Fn0 K mg "is_integer" (topS 3) ["thing"]) (B : Blt mg) : Own P w K mg base 1 "is_integer" ["thing"] m_is_integer :=
  own_def F sc_is_integer fun fa cdv A outer s H G μ E hr => by
    have hu := hr.units
    have hu1 := Nat.lt_of_le_of_lt (Nat.add_le_add_left (by decide : 1 ≤ 65) _) (hv_of hr)
    have hv := hv_of hr
    exact (jss_one (js_ret (je_and (je_isi (by rfl) B.isinstance (by rfl) B.int (by decide +kernel) (jv 0)) (je_one (je_not (je_isi (by rfl) B.isinstance (by rfl) B.bool (by decide +kernel) (jv 0)))))))
theorem sc_is_number : FnScope ["thing"] ["thing"] (defScope (topS 4)) := ⟨rfl, rfl, rfl, by decide +kernel, rfl, by decide +kernel, by decide +kernel⟩
def s_is_number : En → M (Fl × En) := sRet (vAnd (eCall 1 m_is_integer (aCons (eVar 0) (aNil))) (e2 geM (eVar 0) (eC (.int 0))))
def m_is_number : List D → M D := runB 1 s_is_number
theorem d_is_number (F : Fn0 K mg "is_number" (topS 4) ["thing"]) (B : Blt mg) (o_is_integer : Own P w K mg base 1 "is_integer" ["thing"] m_is_integer) : Own P w K mg base 2 "is_number" ["thing"] m_is_number :=
  own_def F sc_is_number fun fa cdv A outer s H G μ E hr => by
    have hu := hr.units
    have hu1 := Nat.lt_of_le_of_lt (Nat.add_le_add_left (by decide : 1 ≤ 65) _) (hv_of hr)
    have hv := hv_of hr
    exact (jss_one (js_ret (je_and (jcall o_is_integer (hr.mono (by decide)) (pd rfl rfl rfl rfl) (ja_cons (jv 0) ja_nil)) (je_one (je_cmp op_geO o_ge (JE.jb (jv 0)) (JE.jb je_int) (nomark _))))))
theorem sc_is_name : FnScope ["thing", "sign"] ["thing"] (defScope (topS 5)) := ⟨rfl, rfl, rfl, by decide +kernel, rfl, by decide +kernel, by decide +kernel⟩
def s_is_name : En → M (Fl × En) := sSeq (sIf (tNt (tBl (e1 (isiM "str") (eVar 0)))) (sRet (eC (.bl false))) (sNil)) (sRet (vAnd (eCh leM leM (eC (.int 1)) (e1 lenM (eVar 0)) (eC (.int 8))) (e1 allM (eL (eLc (iSeq (eVar 0)) (.nm 1) [1] (tTrue) (e2 inM (eVar 1) (eC (.str "abcdefghijklmnopqrstuvwxyz"))))))))
def m_is_name : List D → M D := runB 2 s_is_name
theorem d_is_name (F : Fn0 K mg "is_name" (topS 5) ["thing"]) (B : Blt mg) (c_LETTERS : Cn mg K "LETTERS" (.str "abcdefghijklmnopqrstuvwxyz")) : Own P w K mg base 1 "is_name" ["thing"] m_is_name :=
  own_def F sc_is_name fun fa cdv A outer s H G μ E hr => by
    have hu := hr.units
    have hu1 := Nat.lt_of_le_of_lt (Nat.add_le_add_left (by decide : 1 ≤ 65) _) (hv_of hr)
    have hv := hv_of hr
    exact (jss_cons (js_if (jt_not (jt_val (je_isi (by rfl) B.isinstance (by rfl) B.str (by decide +kernel) (jv 0)))) (jss_one (js_ret je_bl)) jss_nil) (jss_one (js_ret (je_and (je_chain op_leO o_le op_leO o_le (JE.jb je_int) (JE.jb (je_callB call_len c_len (by rfl) B.len (by decide +kernel) (JE.jb (jv 0)))) (JE.jb je_int)) (je_one (je_callB (cr_all rfl) c_all (by rfl) B.all (by decide +kernel) (JE.jb (JF.je (jf_lc (own := [("sign", 1)]) rfl sc_is_name.nd (ji_seq (jv 0)) (blkOk_by (N := ["thing", "sign"]) (sc := defScope (topS 5)) (by decide +kernel)) (by decide) (fun _ _ _ _ _ => (pg_name (i := 1) sc_is_name.nd rfl (Or.inl rfl))) (fun _ _ _ _ _ => jts_nil) (fun _ _ _ _ _ => (je_cmp (op_inB hv) o_in (JE.jb (jv 1)) (JE.jb (c_LETTERS.je (by rfl))) (by rfl))))))))))))
theorem sc_is_form : FnScope ["thing"] ["thing"] (defScope (topS 6)) := ⟨rfl, rfl, rfl, by decide +kernel, rfl, by decide +kernel, by decide +kernel⟩
def s_is_form : En → M (Fl × En) := sRet (vAnd (e1 (isiM "str") (eVar 0)) (e2 inM (eVar 0) (eC (.tup [(.str "queue"), (.str "bag"), (.str "call")]))))
def m_is_form : List D → M D := runB 1 s_is_form
theorem d_is_form (F : Fn0 K mg "is_form" (topS 6) ["thing"]) (B : Blt mg) (c_FORMS : Cn mg K "FORMS" (.tup [(.str "queue"), (.str "bag"), (.str "call")])) : Own P w K mg base 1 "is_form" ["thing"] m_is_form :=
  own_def F sc_is_form fun fa cdv A outer s H G μ E hr => by
    have hu := hr.units
    have hu1 := Nat.lt_of_le_of_lt (Nat.add_le_add_left (by decide : 1 ≤ 65) _) (hv_of hr)
    have hv := hv_of hr
    exact (jss_one (js_ret (je_and (je_isi (by rfl) B.isinstance (by rfl) B.str (by decide +kernel) (jv 0)) (je_one (je_cmp (op_inB hv) o_in (JE.jb (jv 0)) (JE.jb (c_FORMS.je (by rfl))) (by rfl))))))
theorem sc_is_row : FnScope ["thing", "size"] ["thing", "size"] (defScope (topS 13)) := ⟨rfl, rfl, rfl, by decide +kernel, rfl, by decide +kernel, by decide +kernel⟩
def s_is_row : En → M (Fl × En) := sRet (vAnd (e1 (isiM "tuple") (eVar 0)) (e2 eqM (e1 lenM (eVar 0)) (eVar 1)))
def m_is_row : List D → M D := runB 2 s_is_row
theorem d_is_row (F : Fn0 K mg "is_row" (topS 13) ["thing", "size"]) (B : Blt mg) : Own P w K mg base 1 "is_row" ["thing", "size"] m_is_row :=
  own_def F sc_is_row fun fa cdv A outer s H G μ E hr => by
    have hu := hr.units
    have hu1 := Nat.lt_of_le_of_lt (Nat.add_le_add_left (by decide : 1 ≤ 65) _) (hv_of hr)
    have hv := hv_of hr
    exact (jss_one (js_ret (je_and (je_isi (by rfl) B.isinstance (by rfl) B.tuple (by decide +kernel) (jv 0)) (je_one (je_cmp (op_eqD hu) o_eq (JE.jb (je_callB call_len c_len (by rfl) B.len (by decide +kernel) (JE.jb (jv 0)))) (JE.jb (jv 1)) (nomark _))))))
theorem sc_is_pair_of_tuples : FnScope ["thing"] ["thing"] (defScope (topS 14)) := ⟨rfl, rfl, rfl, by decide +kernel, rfl, by decide +kernel, by decide +kernel⟩
def s_is_pair_of_tuples : En → M (Fl × En) := sRet (vAnd (eCall 2 m_is_row (aCons (eVar 0) (aCons (eC (.int 2)) (aNil)))) (vAnd (e1 (isiM "tuple") (e2 ixM (eVar 0) (eC (.int 0)))) (e1 (isiM "tuple") (e2 ixM (eVar 0) (eC (.int 1))))))
def m_is_pair_of_tuples : List D → M D := runB 1 s_is_pair_of_tuples
theorem d_is_pair_of_tuples (F : Fn0 K mg "is_pair_of_tuples" (topS 14) ["thing"]) (B : Blt mg) (o_is_row : Own P w K mg base 1 "is_row" ["thing", "size"] m_is_row) : Own P w K mg base 2 "is_pair_of_tuples" ["thing"] m_is_pair_of_tuples :=
  own_def F sc_is_pair_of_tuples fun fa cdv A outer s H G μ E hr => by
    have hu := hr.units
    have hu1 := Nat.lt_of_le_of_lt (Nat.add_le_add_left (by decide : 1 ≤ 65) _) (hv_of hr)
    have hv := hv_of hr
    exact (jss_one (js_ret (je_and (jcall o_is_row (hr.mono (by decide)) (pd rfl rfl rfl rfl) (ja_cons (jv 0) (ja_cons je_int ja_nil))) (je_and (je_isi (by rfl) B.isinstance (by rfl) B.tuple (by decide +kernel) (je_ix ix_seq o_ix (JE.jb (jv 0)) (JE.jb je_int) (fun _ _ => rfl))) (je_one (je_isi (by rfl) B.isinstance (by rfl) B.tuple (by decide +kernel) (je_ix ix_seq o_ix (JE.jb (jv 0)) (JE.jb je_int) (fun _ _ => rfl))))))))
theorem sc_is_channel_row : FnScope ["thing", "name"] ["thing"] (defScope (topS 15)) := ⟨rfl, rfl, rfl, by decide +kernel, rfl, by decide +kernel, by decide +kernel⟩
def s_is_channel_row : En → M (Fl × En) := sSeq (sIf (tNt (tBl (eCall 2 m_is_row (aCons (eVar 0) (aCons (eC (.int 4)) (aNil)))))) (sRet (eC (.bl false))) (sNil)) (sRet (vAnd (e1 allM (eL (eLc (iSeq (eSl (eVar 0) oNo (oSo (eC (.int 3))))) (.nm 1) [1] (tTrue) (eCall 1 m_is_name (aCons (eVar 1) (aNil)))))) (eCall 1 m_is_form (aCons (e2 ixM (eVar 0) (eC (.int 3))) (aNil)))))
def m_is_channel_row : List D → M D := runB 2 s_is_channel_row
theorem d_is_channel_row (F : Fn0 K mg "is_channel_row" (topS 15) ["thing"]) (B : Blt mg) (o_is_row : Own P w K mg base 1 "is_row" ["thing", "size"] m_is_row) (o_is_name : Own P w K mg base 1 "is_name" ["thing"] m_is_name) (o_is_form : Own P w K mg base 1 "is_form" ["thing"] m_is_form) : Own P w K mg base 2 "is_channel_row" ["thing"] m_is_channel_row :=
  own_def F sc_is_channel_row fun fa cdv A outer s H G μ E hr => by
    have hu := hr.units
    have hu1 := Nat.lt_of_le_of_lt (Nat.add_le_add_left (by decide : 1 ≤ 65) _) (hv_of hr)
    have hv := hv_of hr
    exact (jss_cons (js_if (jt_not (jt_val (jcall o_is_row (hr.mono (by decide)) (pd rfl rfl rfl rfl) (ja_cons (jv 0) (ja_cons je_int ja_nil))))) (jss_one (js_ret je_bl)) jss_nil) (jss_one (js_ret (je_and (je_callB (cr_all rfl) c_all (by rfl) B.all (by decide +kernel) (JE.jb (JF.je (jf_lc (own := [("name", 1)]) rfl sc_is_channel_row.nd (ji_seq (je_slice (JE.jb (jv 0)) jo_no (jo_so je_int))) (blkOk_by (N := ["thing", "name"]) (sc := defScope (topS 15)) (by decide +kernel)) (by decide) (fun _ _ _ _ _ => (pg_name (i := 1) sc_is_channel_row.nd rfl (Or.inl rfl))) (fun _ _ _ _ _ => jts_nil) (fun _ _ _ _ _ => (jcall o_is_name (hr.mono (by decide)) px (ja_cons (jv 1) ja_nil))))))) (je_one (jcall o_is_form (hr.mono (by decide)) (pd rfl rfl rfl rfl) (ja_cons (je_ix ix_seq o_ix (JE.jb (jv 0)) (JE.jb je_int) (fun _ _ => rfl)) ja_nil)))))))
theorem sc_ascends : FnScope ["row", "k"] ["row"] (defScope (topS 17)) := ⟨rfl, rfl, rfl, by decide +kernel, rfl, by decide +kernel, by decide +kernel⟩
def s_ascends : En → M (Fl × En) := sRet (e1 allM (eL (eLc (iRange1 (aCons (e2 subM (e1 lenM (eVar 0)) (eC (.int 1))) (aNil))) (.nm 1) [1] (tTrue) (e2 ltM (e2 ixM (eVar 0) (eVar 1)) (e2 ixM (eVar 0) (e2 addM (eVar 1) (eC (.int 1))))))))
def m_ascends : List D → M D := runB 2 s_ascends
theorem d_ascends (F : Fn0 K mg "ascends" (topS 17) ["row"]) (B : Blt mg) : Own P w K mg base 1 "ascends" ["row"] m_ascends :=
  own_def F sc_ascends fun fa cdv A outer s H G μ E hr => by
    have hu := hr.units
    have hu1 := Nat.lt_of_le_of_lt (Nat.add_le_add_left (by decide : 1 ≤ 65) _) (hv_of hr)
    have hv := hv_of hr
    exact (jss_one (js_ret (je_callB (cr_all rfl) c_all (by rfl) B.all (by decide +kernel) (JE.jb (JF.je (jf_lc (own := [("k", 1)]) rfl sc_ascends.nd (ji_range1 (by rfl) B.range (ja_cons (je_op op_sub o_sub (JE.jb (je_callB call_len c_len (by rfl) B.len (by decide +kernel) (JE.jb (jv 0)))) (JE.jb je_int)) ja_nil)) (blkOk_by (N := ["row", "k"]) (sc := defScope (topS 17)) (by decide +kernel)) (by decide) (fun _ _ _ _ _ => (pg_name (i := 1) sc_ascends.nd rfl (Or.inl rfl))) (fun _ _ _ _ _ => jts_nil) (fun _ _ _ _ _ => (je_cmp op_ltO o_lt (JE.jb (je_ix ix_seq o_ix (JE.jb (jv 0)) (JE.jb (jv 1)) (fun _ _ => rfl))) (JE.jb (je_ix ix_seq o_ix (JE.jb (jv 0)) (JE.jb (je_op op_addA o_add (JE.jb (jv 1)) (JE.jb je_int))) (fun _ _ => rfl))) (nomark _)))))))))
theorem sc_sides_of : FnScope ["channels", "channel"] ["channels"] (defScope (topS 18)) := ⟨rfl, rfl, rfl, by decide +kernel, rfl, by decide +kernel, by decide +kernel⟩
def s_sides_of : En → M (Fl × En) := sRet (eDc (iSeq (eVar 0)) (.nm 1) [1] (tTrue) (e2 ixM (eVar 1) (eC (.int 0))) (eTup (aCons (e2 ixM (eVar 1) (eC (.int 1))) (aCons (e2 ixM (eVar 1) (eC (.int 2))) (aNil)))))
def m_sides_of : List D → M D := runB 2 s_sides_of
theorem d_sides_of (F : Fn0 K mg "sides_of" (topS 18) ["channels"]) (B : Blt mg) : Own P w K mg base 1 "sides_of" ["channels"] m_sides_of :=
  own_def F sc_sides_of fun fa cdv A outer s H G μ E hr => by
    have hu := hr.units
    have hu1 := Nat.lt_of_le_of_lt (Nat.add_le_add_left (by decide : 1 ≤ 65) _) (hv_of hr)
    have hv := hv_of hr
    exact (jss_one (js_ret (je_dc (own := [("channel", 1)]) rfl sc_sides_of.nd (ji_seq (jv 0)) (blkOk_by (N := ["channels", "channel"]) (sc := defScope (topS 18)) (by decide +kernel)) (by decide) (fun _ _ _ _ _ => (pg_name (i := 1) sc_sides_of.nd rfl (Or.inl rfl))) (fun _ _ _ _ _ => jts_nil) (fun _ _ _ _ _ => (je_ix ix_seq o_ix (JE.jb (jv 1)) (JE.jb je_int) (fun _ _ => rfl))) (fun _ _ _ _ _ => (je_tup (ja_cons (je_ix ix_seq o_ix (JE.jb (jv 1)) (JE.jb je_int) (fun _ _ => rfl)) (ja_cons (je_ix ix_seq o_ix (JE.jb (jv 1)) (JE.jb je_int) (fun _ _ => rfl)) ja_nil)))))))
theorem sc_is_owner : FnScope ["sides", "name", "doing", "sender", "taker"] ["sides", "name", "doing"] (defScope (topS 19)) := ⟨rfl, rfl, rfl, by decide +kernel, rfl, by decide +kernel, by decide +kernel⟩
def s_is_owner : En → M (Fl × En) := sSeq (sIf (tBl (e2 eqM (e2 ixM (eVar 2) (eC (.int 0))) (eC (.str "do")))) (sRet (eC (.bl true))) (sNil)) (sSeq (sIf (tBl (e2 (dinM true) (e2 ixM (eVar 2) (eC (.int 1))) (eVar 0))) (sRet (eC (.bl false))) (sNil)) (sSeq (sUn (.tp [3, 4]) (e2 dgM (eVar 0) (e2 ixM (eVar 2) (eC (.int 1))))) (sRet (e2 eqM (eVar 1) (eIf (tBl (e2 eqM (e2 ixM (eVar 2) (eC (.int 0))) (eC (.str "put")))) (eVar 3) (eVar 4))))))
def m_is_owner : List D → M D := runB 5 s_is_owner
theorem d_is_owner (F : Fn0 K mg "is_owner" (topS 19) ["sides", "name", "doing"]) (B : Blt mg) : Own P w K mg base 1 "is_owner" ["sides", "name", "doing"] m_is_owner :=
  own_def F sc_is_owner fun fa cdv A outer s H G μ E hr => by
    have hu := hr.units
    have hu1 := Nat.lt_of_le_of_lt (Nat.add_le_add_left (by decide : 1 ≤ 65) _) (hv_of hr)
    have hv := hv_of hr
    exact (jss_cons (js_if (jt_cmp (op_eqD hu) o_eq (JE.jb (je_ix ix_seq o_ix (JE.jb (jv 2)) (JE.jb je_int) (fun _ _ => rfl))) (JE.jb je_str) (nomark _)) (jss_one (js_ret je_bl)) jss_nil) (jss_cons (js_if (jt_dnotIn hu1 (je_ix ix_seq o_ix (JE.jb (jv 2)) (JE.jb je_int) (fun _ _ => rfl)) (jv 0)) (jss_one (js_ret je_bl)) jss_nil) (jss_cons (js_un (pt := (.tp [3, 4])) (je_dget hu1 (jv 0) (je_ix ix_seq o_ix (JE.jb (jv 2)) (JE.jb je_int) (fun _ _ => rfl))) (pg_tup rfl (pgs_cons (pg_name (i := 3) sc_is_owner.nd rfl (Or.inl rfl)) (pgs_cons (pg_name (i := 4) sc_is_owner.nd rfl (Or.inl rfl)) pgs_nil)))) (jss_one (js_ret (je_cmp (op_eqD hu) o_eq (JE.jb (jv 1)) (JE.jb (je_if (jt_cmp (op_eqD hu) o_eq (JE.jb (je_ix ix_seq o_ix (JE.jb (jv 2)) (JE.jb je_int) (fun _ _ => rfl))) (JE.jb je_str) (nomark _)) (jv 3) (jv 4))) (nomark _)))))))
theorem sc__law_feed : FnScope ["_law_script", "_law_cell"] ["_law_script"] (defScope (topS 21)) := ⟨rfl, rfl, rfl, by decide +kernel, rfl, by decide +kernel, by decide +kernel⟩
theorem d__law_feed (F : Fn0 K mg "_law_feed" (topS 21) ["_law_script"]) (B : Blt mg) : Own P w K mg base 1 "_law_feed" ["_law_script"] PG.m_law_feed :=
  own_def F sc__law_feed fun fa cdv A outer s H G μ E hr => by
    have hu := hr.units
    have hu1 := Nat.lt_of_le_of_lt (Nat.add_le_add_left (by decide : 1 ≤ 65) _) (hv_of hr)
    have hv := hv_of hr
    exact (jss_one (js_ret (je_dict (.cons (JF.je (jf_lc (own := [("_law_cell", 1)]) rfl sc__law_feed.nd (ji_seq (je_slice (JE.jb (jv 0)) jo_no (jo_so je_int))) (blkOk_by (N := ["_law_script", "_law_cell"]) (sc := defScope (topS 21)) (by decide +kernel)) (by decide) (fun _ _ _ _ _ => (pg_name (i := 1) sc__law_feed.nd rfl (Or.inl rfl))) (fun _ _ _ _ _ => jts_nil) (fun _ _ _ _ _ => (je_callTy call_intA c_int (by rfl) B.int (by decide +kernel) (JE.jb (jv 1)))))) (.cons je_int (.cons je_int (.cons je_int .nil)))))))
theorem sc__law_draw : FnScope ["_law_feed_here", "_law_many", "_law_digit", "_law_cells", "_law_at", "_law_cell", "_law_mixed"] ["_law_feed_here", "_law_many"] (defScope (topS 22)) := ⟨rfl, rfl, rfl, by decide +kernel, rfl, by decide +kernel, by decide +kernel⟩
theorem d__law_draw (F : Fn0 K mg "_law_draw" (topS 22) ["_law_feed_here", "_law_many"]) (B : Blt mg) : Own P w K mg base 1 "_law_draw" ["_law_feed_here", "_law_many"] PG.m_law_draw :=
  own_def F sc__law_draw fun fa cdv A outer s H G μ E hr => by
    have hu := hr.units
    have hu1 := Nat.lt_of_le_of_lt (Nat.add_le_add_left (by decide : 1 ≤ 65) _) (hv_of hr)
    have hv := hv_of hr
    exact (jss_cons (js_dput hu1 (jv 0) je_str (je_op op_addA o_add (JE.jb (je_dget hu1 (jv 0) je_str)) (JE.jb je_int))) (jss_cons (js_if (jt_cmp op_gtO o_gt (JE.jb (je_dget hu1 (jv 0) je_str)) (JE.jb je_int) (nomark _)) (jss_cons (js_set (i := 2) sc__law_draw.nd rfl (Or.inl rfl) (je_op op_mod o_mod (JE.jb (je_callTy call_intA c_int (by rfl) B.int (by decide +kernel) (JE.jb (je_dget hu1 (jv 0) je_str)))) (JE.jb (jv 1)))) (jss_cons (js_dput hu1 (jv 0) je_str (je_op op_fdiv o_fdiv (JE.jb (je_dget hu1 (jv 0) je_str)) (JE.jb (jv 1)))) (jss_one (js_ret (jv 2))))) jss_nil) (jss_cons (js_par (i := 3) (j := 4) rfl sc__law_draw.nd rfl rfl (je_dget hu1 (jv 0) je_str) (je_dget hu1 (jv 0) je_str)) (jss_cons (js_dput hu1 (jv 0) je_str (je_op op_addA o_add (JE.jb (jv 4)) (JE.jb je_int))) (jss_cons (js_set (i := 5) sc__law_draw.nd rfl (Or.inl rfl) (je_if (jt_cmp (op_neD hu) o_ne (JE.jb (jv 3)) (JE.jb (je_lst ja_nil)) (nomark _)) (je_ix ix_seq o_ix (JE.jb (jv 3)) (JE.jb (je_op op_mod o_mod (JE.jb (je_callTy call_intA c_int (by rfl) B.int (by decide +kernel) (JE.jb (jv 4)))) (JE.jb (je_callB call_len c_len (by rfl) B.len (by decide +kernel) (JE.jb (jv 3)))))) (fun _ _ => rfl)) je_int)) (jss_cons (js_if (JW.jt (jw_and (jt_cmp op_geO o_ge (JE.jb (jv 5)) (JE.jb (je_op op_pow o_pow (JE.jb je_int) (JE.jb je_int))) (nomark _)) (jw_and1 (jt_cmp op_ltO o_lt (JE.jb (jv 4)) (JE.jb (je_callB call_len c_len (by rfl) B.len (by decide +kernel) (JE.jb (jv 3)))) (nomark _))))) (jss_cons (js_dput hu1 (jv 0) je_str (je_op op_fdiv o_fdiv (JE.jb (jv 5)) (JE.jb (jv 1)))) (jss_one (js_ret (je_op op_mod o_mod (JE.jb (je_callTy call_intA c_int (by rfl) B.int (by decide +kernel) (JE.jb (jv 5)))) (JE.jb (jv 1)))))) jss_nil) (jss_cons (js_set (i := 6) sc__law_draw.nd rfl (Or.inl rfl) (je_op op_mod o_mod (JE.jb (je_callTy call_intA c_int (by rfl) B.int (by decide +kernel) (JE.jb (je_op op_addA o_add (JE.jb (je_op op_addA o_add (JE.jb (je_op op_mod o_mod (JE.jb (je_callTy call_intA c_int (by rfl) B.int (by decide +kernel) (JE.jb (jv 5)))) (JE.jb je_int))) (JE.jb (je_op op_mul o_mul (JE.jb je_int) (JE.jb (je_dget hu1 (jv 0) je_str)))))) (JE.jb je_int))))) (JE.jb je_int))) (jss_cons (js_set (i := 6) sc__law_draw.nd rfl (Or.inl rfl) (je_op op_mod o_mod (JE.jb (je_callTy call_intA c_int (by rfl) B.int (by decide +kernel) (JE.jb (je_op op_addA o_add (JE.jb (je_op op_addA o_add (JE.jb (je_op op_mul o_mul (JE.jb (jv 6)) (JE.jb (jv 6)))) (JE.jb (je_op op_mul o_mul (JE.jb je_int) (JE.jb (je_dget hu1 (jv 0) je_str)))))) (JE.jb je_int))))) (JE.jb je_int))) (jss_cons (js_set (i := 6) sc__law_draw.nd rfl (Or.inl rfl) (je_op op_mod o_mod (JE.jb (je_callTy call_intA c_int (by rfl) B.int (by decide +kernel) (JE.jb (je_op op_addA o_add (JE.jb (je_op op_mul o_mul (JE.jb (jv 6)) (JE.jb (jv 6)))) (JE.jb (je_op op_mul o_mul (JE.jb je_int) (JE.jb (jv 6)))))))) (JE.jb je_int))) (jss_one (js_ret (je_op op_mod o_mod (JE.jb (je_callTy call_intA c_int (by rfl) B.int (by decide +kernel) (JE.jb (je_op op_fdiv o_fdiv (JE.jb (jv 6)) (JE.jb je_int))))) (JE.jb (jv 1))))))))))))))
theorem sc__law_pick : FnScope ["_law_feed_here", "_law_things"] ["_law_feed_here", "_law_things"] (defScope (topS 23)) := ⟨rfl, rfl, rfl, by decide +kernel, rfl, by decide +kernel, by decide +kernel⟩
theorem d__law_pick (F : Fn0 K mg "_law_pick" (topS 23) ["_law_feed_here", "_law_things"]) (B : Blt mg) (o__law_draw : Own P w K mg base 1 "_law_draw" ["_law_feed_here", "_law_many"] PG.m_law_draw) : Own P w K mg base 2 "_law_pick" ["_law_feed_here", "_law_things"] PG.m_law_pick :=
  own_def F sc__law_pick fun fa cdv A outer s H G μ E hr => by
    have hu := hr.units
    have hu1 := Nat.lt_of_le_of_lt (Nat.add_le_add_left (by decide : 1 ≤ 65) _) (hv_of hr)
    have hv := hv_of hr
    exact (jss_one (js_ret (je_ix ix_seq o_ix (JE.jb (jv 1)) (JE.jb (jcall o__law_draw (hr.mono (by decide)) (pd rfl rfl rfl rfl) (ja_cons (jv 0) (ja_cons (je_callB call_len c_len (by rfl) B.len (by decide +kernel) (JE.jb (jv 1))) ja_nil)))) (fun _ _ => rfl))))
theorem sc__law_names : FnScope ["_law_feed_here", "_law_many", "_law_signs", "_law_words", "_law_way", "_law_size", "_law_stem", "_law_lap", "_law_cut", "_law_found", "_law_name", "_law_k", "_law_sign"] ["_law_feed_here", "_law_many"] (defScope (topS 24)) := ⟨rfl, rfl, rfl, by decide +kernel, rfl, by decide +kernel, by decide +kernel⟩
theorem d__law_names (F : Fn0 K mg "_law_names" (topS 24) ["_law_feed_here", "_law_many"]) (B : Blt mg) (o__law_draw : Own P w K mg base 1 "_law_draw" ["_law_feed_here", "_law_many"] PG.m_law_draw) (o__law_pick : Own P w K mg base 2 "_law_pick" ["_law_feed_here", "_law_things"] PG.m_law_pick) : Own P w K mg base 3 "_law_names" ["_law_feed_here", "_law_many"] PG.m_law_names :=
  own_def F sc__law_names fun fa cdv A outer s H G μ E hr => by
    have hu := hr.units
    have hu1 := Nat.lt_of_le_of_lt (Nat.add_le_add_left (by decide : 1 ≤ 65) _) (hv_of hr)
    have hv := hv_of hr
    exact (jss_cons (js_set (i := 2) sc__law_names.nd rfl (Or.inr rfl) je_str) (jss_cons (js_set (i := 3) sc__law_names.nd rfl (Or.inl rfl) (je_lst (ja_cons je_str (ja_cons je_str (ja_cons je_str (ja_cons je_str (ja_cons je_str (ja_cons je_str (ja_cons je_str (ja_cons je_str (ja_cons je_str (ja_cons je_str (ja_cons je_str (ja_cons je_str (ja_cons je_str ja_nil))))))))))))))) (jss_cons (js_par (i := 4) (j := 5) rfl sc__law_names.nd rfl rfl (jcall o__law_draw (hr.mono (by decide)) (pd rfl rfl rfl rfl) (ja_cons (jv 0) (ja_cons je_int ja_nil))) (jcall o__law_draw (hr.mono (by decide)) (pd rfl rfl rfl rfl) (ja_cons (jv 0) (ja_cons je_int ja_nil)))) (jss_cons (js_set (i := 6) sc__law_names.nd rfl (Or.inl rfl) (je_join (JE.jb je_str) (JE.jb (JF.je (jf_lc (own := [("_law_lap", 7)]) rfl sc__law_names.nd (ji_range1 (by rfl) B.range (ja_cons (jv 5) ja_nil)) (blkOk_by (N := ["_law_feed_here", "_law_many", "_law_signs", "_law_words", "_law_way", "_law_size", "_law_stem", "_law_lap", "_law_cut", "_law_found", "_law_name", "_law_k", "_law_sign"]) (sc := defScope (topS 24)) (by decide +kernel)) (by decide) (fun _ _ _ _ _ => (pg_name (i := 7) sc__law_names.nd rfl (Or.inl rfl))) (fun _ _ _ _ _ => jts_nil) (fun _ _ _ _ _ => (je_ix ix_seq o_ix (JE.jb (jv 2)) (JE.jb (jcall o__law_draw (hr.mono (by decide)) px (ja_cons (jv 0) (ja_cons je_int ja_nil)))) (fun _ _ => rfl)))))))) (jss_cons (js_parOC (i := 8) (j := 9) rfl (pg_tup rfl (pgs_cons (pg_name (i := 8) sc__law_names.nd rfl (Or.inl rfl)) (pgs_cons (pg_name (i := 9) sc__law_names.nd rfl (Or.inr rfl)) pgs_nil))) (jcall o__law_draw (hr.mono (by decide)) (pd rfl rfl rfl rfl) (ja_cons (jv 0) (ja_cons (je_op op_addA o_add (JE.jb (jv 5)) (JE.jb je_int)) ja_nil))) (jf_lst ja_nil)) (jss_cons (js_for (passes_of rfl) rfl (ji_range1 (by rfl) B.range (ja_cons (jv 1) ja_nil)) (pg_name (i := 7) sc__law_names.nd rfl (Or.inl rfl)) (fun _ _ => (jss_cons (js_set (i := 10) sc__law_names.nd rfl (Or.inl rfl) (je_op op_addA o_add (JE.jb (je_op op_addA o_add (JE.jb (je_slice (JE.jb (jv 6)) jo_no (jo_so (jv 8)))) (JE.jb (je_ix ix_seq o_ix (JE.jb (jv 2)) (JE.jb (jcall o__law_draw (hr.mono (by decide)) (pd rfl rfl rfl rfl) (ja_cons (jv 0) (ja_cons je_int ja_nil)))) (fun _ _ => rfl))))) (JE.jb (je_slice (JE.jb (jv 6)) (jo_so (jv 8)) jo_no)))) (jss_cons (js_if (jt_cmp (op_eqD hu) o_eq (JE.jb (jv 4)) (JE.jb je_int) (nomark _)) (jss_one (js_set (i := 10) sc__law_names.nd rfl (Or.inl rfl) (jcall o__law_pick (hr.mono (by decide)) (pd rfl rfl rfl rfl) (ja_cons (jv 0) (ja_cons (jv 3) ja_nil))))) jss_nil) (jss_cons (js_if (jt_cmp (op_eqD hu) o_eq (JE.jb (jv 4)) (JE.jb je_int) (nomark _)) (jss_one (js_set (i := 10) sc__law_names.nd rfl (Or.inl rfl) (je_join (JE.jb je_str) (JE.jb (JF.je (jf_lc (own := [("_law_k", 11)]) rfl sc__law_names.nd (ji_range1 (by rfl) B.range (ja_cons (je_op op_addA o_add (JE.jb je_int) (JE.jb (jcall o__law_draw (hr.mono (by decide)) (pd rfl rfl rfl rfl) (ja_cons (jv 0) (ja_cons je_int ja_nil))))) ja_nil)) (blkOk_by (N := ["_law_feed_here", "_law_many", "_law_signs", "_law_words", "_law_way", "_law_size", "_law_stem", "_law_lap", "_law_cut", "_law_found", "_law_name", "_law_k", "_law_sign"]) (sc := defScope (topS 24)) (by decide +kernel)) (by decide) (fun _ _ _ _ _ => (pg_name (i := 11) sc__law_names.nd rfl (Or.inl rfl))) (fun _ _ _ _ _ => jts_nil) (fun _ _ _ _ _ => (je_ix ix_seq o_ix (JE.jb (jv 2)) (JE.jb (jcall o__law_draw (hr.mono (by decide)) px (ja_cons (jv 0) (ja_cons je_int ja_nil)))) (fun _ _ => rfl))))))))) jss_nil) (jss_cons (js_if (jt_cmp (op_inB hv) o_in (JE.jb (jv 10)) (jw 9) (by rfl)) (jss_one (js_set (i := 10) sc__law_names.nd rfl (Or.inl rfl) (je_ix ix_seq o_ix (JE.jb (JF.je (jf_lc (own := [("_law_sign", 12)]) rfl sc__law_names.nd (ji_seq (jv 2)) (blkOk_by (N := ["_law_feed_here", "_law_many", "_law_signs", "_law_words", "_law_way", "_law_size", "_law_stem", "_law_lap", "_law_cut", "_law_found", "_law_name", "_law_k", "_law_sign"]) (sc := defScope (topS 24)) (by decide +kernel)) (by decide) (fun _ _ _ _ _ => (pg_name (i := 12) sc__law_names.nd rfl (Or.inl rfl))) (fun _ _ _ _ _ => (jts_one (jt_cmp (op_notInB hv) o_notIn (JE.jb (jv 12)) (jw 9) (by rfl)))) (fun _ _ _ _ _ => (jv 12))))) (JE.jb je_int) (fun _ _ => rfl)))) jss_nil) (jss_one (js_app (i := 9) rfl (Or.inr (Or.inl rfl)) (jv 10) (hb := fun ho ha => pe_bm PySem.F.plainAttrs_list PySem.F.slot_list_append PySem.F.type_list_append mt_append ho ha))))))))) (jss_one (js_frz (i := 9) (js_ret (jv 9))))))))))
theorem sc__law_spots : FnScope ["_law_feed_here", "_law_large", "_law_spots_here", "_law_first"] ["_law_feed_here"] (defScope (topS 25)) := ⟨rfl, rfl, rfl, by decide +kernel, rfl, by decide +kernel, by decide +kernel⟩
theorem d__law_spots (F : Fn0 K mg "_law_spots" (topS 25) ["_law_feed_here"]) (B : Blt mg) (o__law_draw : Own P w K mg base 1 "_law_draw" ["_law_feed_here", "_law_many"] PG.m_law_draw) : Own P w K mg base 2 "_law_spots" ["_law_feed_here"] PG.m_law_spots :=
  own_def F sc__law_spots fun fa cdv A outer s H G μ E hr => by
    have hu := hr.units
    have hu1 := Nat.lt_of_le_of_lt (Nat.add_le_add_left (by decide : 1 ≤ 65) _) (hv_of hr)
    have hv := hv_of hr
    exact (jss_cons (js_set (i := 1) sc__law_spots.nd rfl (Or.inl rfl) (je_op op_addA o_add (JE.jb (je_op op_mul o_mul (JE.jb (jcall o__law_draw (hr.mono (by decide)) (pd rfl rfl rfl rfl) (ja_cons (jv 0) (ja_cons je_int ja_nil)))) (JE.jb (je_op op_pow o_pow (JE.jb je_int) (JE.jb je_int))))) (JE.jb (jcall o__law_draw (hr.mono (by decide)) (pd rfl rfl rfl rfl) (ja_cons (jv 0) (ja_cons je_int ja_nil)))))) (jss_cons (js_set (i := 2) sc__law_spots.nd rfl (Or.inl rfl) (je_lst (ja_cons je_int (ja_cons je_int (ja_cons je_int (ja_cons (je_op op_addA o_add (JE.jb je_int) (JE.jb (jcall o__law_draw (hr.mono (by decide)) (pd rfl rfl rfl rfl) (ja_cons (jv 0) (ja_cons je_int ja_nil))))) (ja_cons je_int (ja_cons (jv 1) (ja_cons (jcall o__law_draw (hr.mono (by decide)) (pd rfl rfl rfl rfl) (ja_cons (jv 0) (ja_cons je_int ja_nil))) (ja_cons (je_op op_addA o_add (JE.jb je_int) (JE.jb (jcall o__law_draw (hr.mono (by decide)) (pd rfl rfl rfl rfl) (ja_cons (jv 0) (ja_cons je_int ja_nil))))) ja_nil)))))))))) (jss_cons (js_set (i := 3) sc__law_spots.nd rfl (Or.inl rfl) (jcall o__law_draw (hr.mono (by decide)) (pd rfl rfl rfl rfl) (ja_cons (jv 0) (ja_cons je_int ja_nil)))) (jss_one (js_ret (je_slice (JE.jb (je_op op_addA o_add (JE.jb (jv 2)) (JE.jb (jv 2)))) (jo_so (jv 3)) (jo_so (je_op op_addA o_add (JE.jb (je_op op_addA o_add (JE.jb (jv 3)) (JE.jb je_int))) (JE.jb (jcall o__law_draw (hr.mono (by decide)) (pd rfl rfl rfl rfl) (ja_cons (jv 0) (ja_cons je_int ja_nil))))))))))))
theorem sc__law_doings : FnScope ["_law_name", "_law_channels", "_law_letters", "_law_doings_here", "_law_way", "_law_sender", "_law_taker", "_law_form", "_law_letter"] ["_law_name", "_law_channels", "_law_letters"] (defScope (topS 26)) := ⟨rfl, rfl, rfl, by decide +kernel, rfl, by decide +kernel, by decide +kernel⟩
theorem d__law_doings (F : Fn0 K mg "_law_doings" (topS 26) ["_law_name", "_law_channels", "_law_letters"]) (B : Blt mg) : Own P w K mg base 1 "_law_doings" ["_law_name", "_law_channels", "_law_letters"] PG.m_law_doings :=
  own_def F sc__law_doings fun fa cdv A outer s H G μ E hr => by
    have hu := hr.units
    have hu1 := Nat.lt_of_le_of_lt (Nat.add_le_add_left (by decide : 1 ≤ 65) _) (hv_of hr)
    have hv := hv_of hr
    exact (jss_cons (js_own (i := 3) sc__law_doings.nd rfl (Or.inl rfl) (jf_lst (ja_cons (je_tup (ja_cons je_str (ja_cons (je_ix ix_seq o_ix (JE.jb (jv 2)) (JE.jb je_int) (fun _ _ => rfl)) ja_nil))) (ja_cons (je_tup (ja_cons je_str (ja_cons (je_ix ix_seq o_ix (JE.jb (jv 2)) (JE.jb je_int) (fun _ _ => rfl)) ja_nil))) ja_nil)))) (jss_cons (js_for (passes_of rfl) rfl (ji_seq (jv 1)) (pg_tup rfl (pgs_cons (pg_name (i := 4) sc__law_doings.nd rfl (Or.inr rfl)) (pgs_cons (pg_name (i := 5) sc__law_doings.nd rfl (Or.inr rfl)) (pgs_cons (pg_name (i := 6) sc__law_doings.nd rfl (Or.inl rfl)) (pgs_cons (pg_name (i := 7) sc__law_doings.nd rfl (Or.inl rfl)) pgs_nil))))) (fun _ _ => (jss_one (js_if (jt_cmp (op_inB hv) o_in (JE.jb (jv 0)) (JE.jb (je_tup (ja_cons (jv 5) (ja_cons (jv 6) ja_nil)))) (by rfl)) (jss_one (js_ext (i := 3) rfl (Or.inl rfl) (JF.je (jf_lc (own := [("_law_letter", 8)]) rfl sc__law_doings.nd (ji_seq (jv 2)) (blkOk_by (N := ["_law_name", "_law_channels", "_law_letters", "_law_doings_here", "_law_way", "_law_sender", "_law_taker", "_law_form", "_law_letter"]) (sc := defScope (topS 26)) (by decide +kernel)) (by decide) (fun _ _ _ _ _ => (pg_name (i := 8) sc__law_doings.nd rfl (Or.inl rfl))) (fun _ _ _ _ _ => jts_nil) (fun _ _ _ _ _ => (je_tup (ja_cons (je_if (jt_cmp (op_eqD hu) o_eq (JE.jb (jv 0)) (JE.jb (jv 5)) (nomark _)) je_str je_str) (ja_cons (jv 4) (ja_cons (jv 8) ja_nil))))))) (hb := fun ho ha => pe_bm PySem.F.plainAttrs_list PySem.F.slot_list_extend PySem.F.type_list_extend mt_extend ho ha))) jss_nil)))) (jss_one (js_frz (i := 3) (js_ret (jv 3))))))
theorem sc__law_party : FnScope ["_law_feed_here", "_law_name", "_law_doings_here", "_law_spots_here", "_law_arrows", "_law_lap", "_law_arrow", "_law_ends"] ["_law_feed_here", "_law_name", "_law_doings_here", "_law_spots_here"] (defScope (topS 27)) := ⟨rfl, rfl, rfl, by decide +kernel, rfl, by decide +kernel, by decide +kernel⟩
theorem d__law_party (F : Fn0 K mg "_law_party" (topS 27) ["_law_feed_here", "_law_name", "_law_doings_here", "_law_spots_here"]) (B : Blt mg) (o__law_draw : Own P w K mg base 1 "_law_draw" ["_law_feed_here", "_law_many"] PG.m_law_draw) (o__law_pick : Own P w K mg base 2 "_law_pick" ["_law_feed_here", "_law_things"] PG.m_law_pick) : Own P w K mg base 3 "_law_party" ["_law_feed_here", "_law_name", "_law_doings_here", "_law_spots_here"] PG.m_law_party :=
  own_def F sc__law_party fun fa cdv A outer s H G μ E hr => by
    have hu := hr.units
    have hu1 := Nat.lt_of_le_of_lt (Nat.add_le_add_left (by decide : 1 ≤ 65) _) (hv_of hr)
    have hv := hv_of hr
    exact (jss_cons (js_own (i := 4) sc__law_party.nd rfl (Or.inl rfl) (jf_lst ja_nil)) (jss_cons (js_for (passes_of rfl) rfl (ji_range1 (by rfl) B.range (ja_cons (jcall o__law_draw (hr.mono (by decide)) (pd rfl rfl rfl rfl) (ja_cons (jv 0) (ja_cons je_int ja_nil))) ja_nil)) (pg_name (i := 5) sc__law_party.nd rfl (Or.inl rfl)) (fun _ _ => (jss_cons (js_set (i := 6) sc__law_party.nd rfl (Or.inl rfl) (je_tup (ja_cons (jcall o__law_pick (hr.mono (by decide)) (pd rfl rfl rfl rfl) (ja_cons (jv 0) (ja_cons (jv 3) ja_nil))) (ja_cons (jcall o__law_pick (hr.mono (by decide)) (pd rfl rfl rfl rfl) (ja_cons (jv 0) (ja_cons (jv 2) ja_nil))) (ja_cons (jcall o__law_pick (hr.mono (by decide)) (pd rfl rfl rfl rfl) (ja_cons (jv 0) (ja_cons (jv 3) ja_nil))) ja_nil))))) (jss_one (js_if (jt_cmp (op_notInB hv) o_notIn (JE.jb (jv 6)) (jw 4) (by rfl)) (jss_one (js_app (i := 4) rfl (Or.inl rfl) (jv 6) (hb := fun ho ha => pe_bm PySem.F.plainAttrs_list PySem.F.slot_list_append PySem.F.type_list_append mt_append ho ha))) jss_nil))))) (jss_cons (js_set (i := 7) sc__law_party.nd rfl (Or.inl rfl) (je_sset rfl (by rfl) B.sorted (by rfl) B.set (JE.jb (JF.je (jf_lc (own := [("_law_lap", 5)]) rfl sc__law_party.nd (ji_range1 (by rfl) B.range (ja_cons (jcall o__law_draw (hr.mono (by decide)) (pd rfl rfl rfl rfl) (ja_cons (jv 0) (ja_cons je_int ja_nil))) ja_nil)) (blkOk_by (N := ["_law_feed_here", "_law_name", "_law_doings_here", "_law_spots_here", "_law_arrows", "_law_lap", "_law_arrow", "_law_ends"]) (sc := defScope (topS 27)) (by decide +kernel)) (by decide) (fun _ _ _ _ _ => (pg_name (i := 5) sc__law_party.nd rfl (Or.inl rfl))) (fun _ _ _ _ _ => jts_nil) (fun _ _ _ _ _ => (jcall o__law_pick (hr.mono (by decide)) px (ja_cons (jv 0) (ja_cons (jv 3) ja_nil))))))))) (jss_one (js_ret (je_tup (ja_cons (jv 1) (ja_cons (je_callTy call_tuple_of c_tup (by rfl) B.tuple (by decide +kernel) (JE.jb (jv 7))) (ja_cons (je_callTy call_tuple_of c_tup (by rfl) B.tuple (by decide +kernel) (jw 4)) ja_nil)))))))))
theorem sc__law_built : FnScope ["_law_feed_here", "_law_folk", "_law_ways", "_law_letters", "_law_spots_here", "_law_way", "_law_channels", "_law_sender", "_law_taker", "_law_parties", "_law_name"] ["_law_feed_here"] (defScope (topS 28)) := ⟨rfl, rfl, rfl, by decide +kernel, rfl, by decide +kernel, by decide +kernel⟩
theorem d__law_built (F : Fn0 K mg "_law_built" (topS 28) ["_law_feed_here"]) (B : Blt mg) (o__law_names : Own P w K mg base 3 "_law_names" ["_law_feed_here", "_law_many"] PG.m_law_names) (o__law_draw : Own P w K mg base 1 "_law_draw" ["_law_feed_here", "_law_many"] PG.m_law_draw) (o__law_spots : Own P w K mg base 2 "_law_spots" ["_law_feed_here"] PG.m_law_spots) (o__law_pick : Own P w K mg base 2 "_law_pick" ["_law_feed_here", "_law_things"] PG.m_law_pick) (o__law_party : Own P w K mg base 3 "_law_party" ["_law_feed_here", "_law_name", "_law_doings_here", "_law_spots_here"] PG.m_law_party) (o__law_doings : Own P w K mg base 1 "_law_doings" ["_law_name", "_law_channels", "_law_letters"] PG.m_law_doings) : Own P w K mg base 4 "_law_built" ["_law_feed_here"] PG.m_law_built :=
  own_def F sc__law_built fun fa cdv A outer s H G μ E hr => by
    have hu := hr.units
    have hu1 := Nat.lt_of_le_of_lt (Nat.add_le_add_left (by decide : 1 ≤ 65) _) (hv_of hr)
    have hv := hv_of hr
    exact (jss_cons (js_set (i := 1) sc__law_built.nd rfl (Or.inr rfl) (je_callB call_sortedA c_sorted (by rfl) B.sorted (by decide +kernel) (JE.jb (jcall o__law_names (hr.mono (by decide)) (pd rfl rfl rfl rfl) (ja_cons (jv 0) (ja_cons (je_ix ix_seq o_ix (JE.jb (je_lst (ja_cons je_int (ja_cons je_int (ja_cons je_int (ja_cons je_int (ja_cons je_int (ja_cons je_int (ja_cons je_int (ja_cons je_int ja_nil)))))))))) (JE.jb (jcall o__law_draw (hr.mono (by decide)) (pd rfl rfl rfl rfl) (ja_cons (jv 0) (ja_cons je_int ja_nil)))) (fun _ _ => rfl)) ja_nil)))))) (jss_cons (js_un (pt := (.tp [2, 3, 4])) (je_tup (ja_cons (jcall o__law_names (hr.mono (by decide)) (pd rfl rfl rfl rfl) (ja_cons (jv 0) (ja_cons je_int ja_nil))) (ja_cons (jcall o__law_names (hr.mono (by decide)) (pd rfl rfl rfl rfl) (ja_cons (jv 0) (ja_cons je_int ja_nil))) (ja_cons (jcall o__law_spots (hr.mono (by decide)) (pd rfl rfl rfl rfl) (ja_cons (jv 0) ja_nil)) ja_nil)))) (pg_tup rfl (pgs_cons (pg_name (i := 2) sc__law_built.nd rfl (Or.inl rfl)) (pgs_cons (pg_name (i := 3) sc__law_built.nd rfl (Or.inr rfl)) (pgs_cons (pg_name (i := 4) sc__law_built.nd rfl (Or.inr rfl)) pgs_nil))))) (jss_cons (js_if (jt_cmp (op_eqD hu) o_eq (JE.jb (jcall o__law_draw (hr.mono (by decide)) (pd rfl rfl rfl rfl) (ja_cons (jv 0) (ja_cons je_int ja_nil)))) (JE.jb je_int) (nomark _)) (jss_one (js_set (i := 2) sc__law_built.nd rfl (Or.inl rfl) (je_op op_addA o_add (JE.jb (jv 1)) (JE.jb (JF.je (jf_lc (own := [("_law_way", 5)]) rfl sc__law_built.nd (ji_seq (jv 2)) (blkOk_by (N := ["_law_feed_here", "_law_folk", "_law_ways", "_law_letters", "_law_spots_here", "_law_way", "_law_channels", "_law_sender", "_law_taker", "_law_parties", "_law_name"]) (sc := defScope (topS 28)) (by decide +kernel)) (by decide) (fun _ _ _ _ _ => (pg_name (i := 5) sc__law_built.nd rfl (Or.inl rfl))) (fun _ _ _ _ _ => (jts_one (jt_cmp (op_notInB hv) o_notIn (JE.jb (jv 5)) (JE.jb (jv 1)) (by rfl)))) (fun _ _ _ _ _ => (jv 5)))))))) jss_nil) (jss_cons (js_own (i := 6) sc__law_built.nd rfl (Or.inr rfl) (jf_lst ja_nil)) (jss_cons (js_for (passes_of rfl) rfl (ji_seq (je_callB call_sortedA c_sorted (by rfl) B.sorted (by decide +kernel) (JE.jb (je_slice (JE.jb (jv 2)) jo_no (jo_so (je_if (jt_cmp op_gtO o_gt (JE.jb (je_callB call_len c_len (by rfl) B.len (by decide +kernel) (JE.jb (jv 1)))) (JE.jb je_int) (nomark _)) (je_ix ix_seq o_ix (JE.jb (je_lst (ja_cons je_int (ja_cons je_int (ja_cons je_int (ja_cons je_int (ja_cons je_int (ja_cons je_int ja_nil)))))))) (JE.jb (jcall o__law_draw (hr.mono (by decide)) (pd rfl rfl rfl rfl) (ja_cons (jv 0) (ja_cons je_int ja_nil)))) (fun _ _ => rfl)) je_int)))))) (pg_name (i := 5) sc__law_built.nd rfl (Or.inl rfl)) (fun _ _ => (jss_cons (js_set (i := 7) sc__law_built.nd rfl (Or.inl rfl) (jcall o__law_draw (hr.mono (by decide)) (pd rfl rfl rfl rfl) (ja_cons (jv 0) (ja_cons (je_callB call_len c_len (by rfl) B.len (by decide +kernel) (JE.jb (jv 1))) ja_nil)))) (jss_cons (js_set (i := 8) sc__law_built.nd rfl (Or.inl rfl) (je_op op_mod o_mod (JE.jb (je_callTy call_intA c_int (by rfl) B.int (by decide +kernel) (JE.jb (je_op op_addA o_add (JE.jb (je_op op_addA o_add (JE.jb (jv 7)) (JE.jb je_int))) (JE.jb (jcall o__law_draw (hr.mono (by decide)) (pd rfl rfl rfl rfl) (ja_cons (jv 0) (ja_cons (je_op op_sub o_sub (JE.jb (je_callB call_len c_len (by rfl) B.len (by decide +kernel) (JE.jb (jv 1)))) (JE.jb je_int)) ja_nil)))))))) (JE.jb (je_callB call_len c_len (by rfl) B.len (by decide +kernel) (JE.jb (jv 1)))))) (jss_one (js_app (i := 6) rfl (Or.inr (Or.inl rfl)) (je_tup (ja_cons (jv 5) (ja_cons (je_ix ix_seq o_ix (JE.jb (jv 1)) (JE.jb (jv 7)) (fun _ _ => rfl)) (ja_cons (je_ix ix_seq o_ix (JE.jb (jv 1)) (JE.jb (jv 8)) (fun _ _ => rfl)) (ja_cons (jcall o__law_pick (hr.mono (by decide)) (pd rfl rfl rfl rfl) (ja_cons (jv 0) (ja_cons (je_lst (ja_cons je_str (ja_cons je_str (ja_cons je_str ja_nil)))) ja_nil))) ja_nil))))) (hb := fun ho ha => pe_bm PySem.F.plainAttrs_list PySem.F.slot_list_append PySem.F.type_list_append mt_append ho ha))))))) (jss_cons (js_frz (i := 6) (js_setLc (i := 9) (own := [("_law_name", 10)]) rfl sc__law_built.nd rfl rfl (sw_true rfl rfl rfl (by decide +kernel)) (ji_seq (jv 1)) (blkOk_by (N := ["_law_feed_here", "_law_folk", "_law_ways", "_law_letters", "_law_spots_here", "_law_way", "_law_channels", "_law_sender", "_law_taker", "_law_parties", "_law_name"]) (sc := defScope (topS 28)) (by decide +kernel)) (by decide) (fun _ _ _ _ _ => (pg_name (i := 10) sc__law_built.nd rfl (Or.inl rfl))) (fun _ _ _ _ _ => jts_nil) (fun _ _ _ _ _ => (jcall o__law_party (hr.mono (by decide)) px (ja_cons (jv 0) (ja_cons (jv 10) (ja_cons (jcall o__law_doings (hr.mono (by decide)) px (ja_cons (jv 10) (ja_cons (jv 6) (ja_cons (jv 3) ja_nil)))) (ja_cons (jv 4) ja_nil)))))))) (jss_one (js_ret (je_tup (ja_cons (je_callTy call_tuple_of c_tup (by rfl) B.tuple (by decide +kernel) (JE.jb (jv 9))) (ja_cons (je_callTy call_tuple_of c_tup (by rfl) B.tuple (by decide +kernel) (jw 6)) ja_nil)))))))))))
theorem sc__law_strange : FnScope ["_law_feed_here", "_law_things"] ["_law_feed_here"] (defScope (topS 29)) := ⟨rfl, rfl, rfl, by decide +kernel, rfl, by decide +kernel, by decide +kernel⟩
def s__law_strange : En → M (Fl × En) := sSeq (sOwn 1 (fLst (aCons (eC (.int 0)) (aCons (eC (.int 1)) (aCons (eNeg (eC (.int 1))) (aCons (eC (.bl true)) (aCons (eC (.bl false)) (aCons (eC .non) (aCons (eC (.str "")) (aCons (eC (.str "a")) (aCons (eC (.str "Ab")) (aCons (eC (.str "ab ")) (aCons (eC (.str "abcdefgh")) (aCons (eC (.str "abcdefghi")) (aCons (eTup (aNil)) (aCons (eLst (aNil)) (aCons (eTup (aCons (eC (.int 0)) (aNil))) (aCons (eLst (aCons (eC (.int 0)) (aNil))) (aCons (eTup (aCons (eC (.str "a")) (aNil))) (aNil)))))))))))))))))))) (sSeq (sExt 1 (eLst (aCons (eC (.str "queue")) (aCons (eC (.str "bag")) (aCons (eC (.str "call")) (aCons (eC (.str "row")) (aCons (eC (.str "put")) (aCons (eC (.str "do")) (aCons (e2 powM (eC (.int 10)) (eC (.int 59))) (aCons (eNeg (e2 powM (eC (.int 10)) (eC (.int 59)))) (aCons (eTup (aCons (eC (.str "do")) (aCons (eC (.str "go")) (aNil)))) (aCons (eTup (aCons (eC (.str "a")) (aCons (eC (.int 0)) (aNil)))) (aNil))))))))))))) (sSeq (sExt 1 (eLst (aCons (eC (.str "0")) (aCons (eTup (aCons (eC (.str "put")) (aCons (eC (.str "a")) (aCons (eC (.str "b")) (aNil))))) (aCons (eTup (aCons (eC (.int 0)) (aCons (eTup (aCons (eC (.str "do")) (aCons (eC (.str "a")) (aNil)))) (aCons (eC (.int 1)) (aNil))))) (aCons (eTup (aCons (eC (.str "a")) (aCons (eC (.str "b")) (aCons (eC (.str "c")) (aCons (eC (.str "bag")) (aNil)))))) (aCons (eTup (aCons (eC (.str "a")) (aCons (eTup (aNil)) (aCons (eTup (aNil)) (aNil))))) (aCons (eTup (aCons (eTup (aNil)) (aCons (eTup (aNil)) (aNil)))) (aNil))))))))) (sFrz 1 (sRet (eCall 2 PG.m_law_pick (aCons (eVar 0) (aCons (eVar 1) (aNil))))))))
def m__law_strange : List D → M D := runB 2 s__law_strange
theorem d__law_strange (F : Fn0 K mg "_law_strange" (topS 29) ["_law_feed_here"]) (B : Blt mg) (o__law_pick : Own P w K mg base 2 "_law_pick" ["_law_feed_here", "_law_things"] PG.m_law_pick) : Own P w K mg base 3 "_law_strange" ["_law_feed_here"] m__law_strange :=
  own_def F sc__law_strange fun fa cdv A outer s H G μ E hr => by
    have hu := hr.units
    have hu1 := Nat.lt_of_le_of_lt (Nat.add_le_add_left (by decide : 1 ≤ 65) _) (hv_of hr)
    have hv := hv_of hr
    exact (jss_cons (js_own (i := 1) sc__law_strange.nd rfl (Or.inl rfl) (jf_lst (ja_cons je_int (ja_cons je_int (ja_cons (je_neg je_int) (ja_cons je_bl (ja_cons je_bl (ja_cons je_non (ja_cons je_str (ja_cons je_str (ja_cons je_str (ja_cons je_str (ja_cons je_str (ja_cons je_str (ja_cons (je_tup ja_nil) (ja_cons (je_lst ja_nil) (ja_cons (je_tup (ja_cons je_int ja_nil)) (ja_cons (je_lst (ja_cons je_int ja_nil)) (ja_cons (je_tup (ja_cons je_str ja_nil)) ja_nil))))))))))))))))))) (jss_cons (js_ext (i := 1) rfl (Or.inl rfl) (je_lst (ja_cons je_str (ja_cons je_str (ja_cons je_str (ja_cons je_str (ja_cons je_str (ja_cons je_str (ja_cons (je_op op_pow o_pow (JE.jb je_int) (JE.jb je_int)) (ja_cons (je_neg (je_op op_pow o_pow (JE.jb je_int) (JE.jb je_int))) (ja_cons (je_tup (ja_cons je_str (ja_cons je_str ja_nil))) (ja_cons (je_tup (ja_cons je_str (ja_cons je_int ja_nil))) ja_nil))))))))))) (hb := fun ho ha => pe_bm PySem.F.plainAttrs_list PySem.F.slot_list_extend PySem.F.type_list_extend mt_extend ho ha)) (jss_cons (js_ext (i := 1) rfl (Or.inl rfl) (je_lst (ja_cons je_str (ja_cons (je_tup (ja_cons je_str (ja_cons je_str (ja_cons je_str ja_nil)))) (ja_cons (je_tup (ja_cons je_int (ja_cons (je_tup (ja_cons je_str (ja_cons je_str ja_nil))) (ja_cons je_int ja_nil)))) (ja_cons (je_tup (ja_cons je_str (ja_cons je_str (ja_cons je_str (ja_cons je_str ja_nil))))) (ja_cons (je_tup (ja_cons je_str (ja_cons (je_tup ja_nil) (ja_cons (je_tup ja_nil) ja_nil)))) (ja_cons (je_tup (ja_cons (je_tup ja_nil) (ja_cons (je_tup ja_nil) ja_nil))) ja_nil))))))) (hb := fun ho ha => pe_bm PySem.F.plainAttrs_list PySem.F.slot_list_extend PySem.F.type_list_extend mt_extend ho ha)) (jss_one (js_frz (i := 1) (js_ret (jcall o__law_pick (hr.mono (by decide)) (pd rfl rfl rfl rfl) (ja_cons (jv 0) (ja_cons (jv 1) ja_nil)))))))))
theorem sc__law_spoilt : FnScope ["_law_feed_here", "_law_thing", "_law_k", "_law_way", "_law_strange_here", "_law_more"] ["_law_feed_here", "_law_thing"] (defScope (topS 30)) := ⟨rfl, rfl, rfl, by decide +kernel, rfl, by decide +kernel, by decide +kernel⟩
def s__law_spoilt (m_rec : List D → M D) : En → M (Fl × En) := sSeq (sIf (tAn (tBl (e1 (isiM "tuple") (eVar 1))) (tAn (tBl (e2 neM (eVar 1) (eTup (aNil)))) (tBl (e2 gtM (eCall 2 PG.m_law_draw (aCons (eVar 0) (aCons (eC (.int 5)) (aNil)))) (eC (.int 0)))))) (sSeq (sSet 2 (eCall 2 PG.m_law_draw (aCons (eVar 0) (aCons (e1 lenM (eVar 1)) (aNil))))) (sRet (e2 addBM (e2 addBM (eSl (eVar 1) oNo (oSo (eVar 2))) (eTup (aCons (eCall 2 m_rec (aCons (eVar 0) (aCons (e2 ixM (eVar 1) (eVar 2)) (aNil)))) (aNil)))) (eSl (eVar 1) (oSo (e2 addBM (eVar 2) (eC (.int 1)))) oNo)))) (sNil)) (sSeq (sPar 3 4 (eCall 2 PG.m_law_draw (aCons (eVar 0) (aCons (eC (.int 7)) (aNil)))) (eCall 1 m__law_strange (aCons (eVar 0) (aNil)))) (sSeq (sIf (tAn (tBl (e1 (isiM "tuple") (eVar 1))) (tBl (e2 ltM (eVar 3) (eC (.int 5))))) (sSeq (sSet 2 (eCall 2 PG.m_law_draw (aCons (eVar 0) (aCons (e2 addBM (e1 lenM (eVar 1)) (eC (.int 1))) (aNil))))) (sSeq (sIf (tBl (e2 inM (eVar 3) (eTup (aCons (eC (.int 0)) (aCons (eC (.int 3)) (aNil)))))) (sRet (eIf (tBl (e2 eqM (eVar 3) (eC (.int 0)))) (e1 lstM (eVar 1)) (e2 addBM (eSl (eVar 1) (oSo (eVar 2)) oNo) (eSl (eVar 1) oNo (oSo (eVar 2)))))) (sNil)) (sSeq (sSet 5 (eIf (tBl (e2 eqM (eVar 3) (eC (.int 4)))) (eTup (aCons (eVar 4) (aNil))) (eIf (tBl (e2 eqM (eVar 3) (eC (.int 2)))) (eSl (eVar 1) (oSo (eVar 2)) (oSo (e2 addBM (eVar 2) (eC (.int 1))))) (eTup (aNil))))) (sRet (e2 addBM (e2 addBM (eSl (eVar 1) oNo (oSo (eVar 2))) (eVar 5)) (eSl (eVar 1) (oSo (e2 addBM (eVar 2) (eIf (tBl (e2 eqM (eVar 3) (eC (.int 1)))) (eC (.int 1)) (eC (.int 0))))) oNo)))))) (sNil)) (sSeq (sIf (tAn (tBl (e1 (isiM "str") (eVar 1))) (tBl (e2 ltM (eVar 3) (eC (.int 5))))) (sSeq (sIf (tBl (e2 ltM (eVar 3) (eC (.int 2)))) (sRet (eIf (tBl (e2 eqM (eVar 3) (eC (.int 0)))) (e2 addBM (eVar 1) (eC (.str "a"))) (eSl (eVar 1) (oSo (eC (.int 1))) oNo))) (sNil)) (sRet (eIf (tBl (e2 eqM (eVar 3) (eC (.int 2)))) (e2 addBM (eC (.str "a")) (eVar 1)) (eIf (tBl (e2 eqM (eVar 3) (eC (.int 3)))) (e1 upperM (eVar 1)) (e2 addBM (eVar 1) (eC (.str " "))))))) (sNil)) (sSeq (sIf (tAn (tBl (e1 (isiM "int") (eVar 1))) (tBl (e2 ltM (eVar 3) (eC (.int 5))))) (sSeq (sIf (tBl (e2 ltM (eVar 3) (eC (.int 2)))) (sRet (eIf (tBl (e2 eqM (eVar 3) (eC (.int 0)))) (e2 addBM (eVar 1) (eC (.int 1))) (eNegB (eVar 1)))) (sNil)) (sRet (eIf (tBl (e2 eqM (eVar 3) (eC (.int 2)))) (e1 strBM (eVar 1)) (eIf (tBl (e2 eqM (eVar 3) (eC (.int 3)))) (e2 eqM (eVar 1) (eC (.int 1))) (e2 subBM (eVar 1) (eC (.int 1))))))) (sNil)) (sRet (eVar 4))))))
def m__law_spoilt : Nat → List D → M D
  | 0 => fun _ => M.bad
  | n + 1 => runB 6 (s__law_spoilt (m__law_spoilt n))
theorem d__law_spoilt (F : Fn0 K mg "_law_spoilt" (topS 30) ["_law_feed_here", "_law_thing"]) (B : Blt mg) (o__law_draw : Own P w K mg base 1 "_law_draw" ["_law_feed_here", "_law_many"] PG.m_law_draw) (o__law_strange : Own P w K mg base 3 "_law_strange" ["_law_feed_here"] m__law_strange) : ∀ n, Own P w K mg base (3 + n) "_law_spoilt" ["_law_feed_here", "_law_thing"] (m__law_spoilt n)
  | 0 => own_zero _ F
  | n + 1 => by
    have o__law_spoilt := d__law_spoilt F B o__law_draw o__law_strange n
    exact own_def F sc__law_spoilt fun fa cdv A outer s H G μ E hr => by
      have hu := hr.units
      have hu1 := Nat.lt_of_le_of_lt (Nat.add_le_add_left (by decide : 1 ≤ 65) _) (hv_of hr)
      have hv := hv_of hr
      exact (jss_cons (js_if (JW.jt (jw_and (jt_val (je_isi (by rfl) B.isinstance (by rfl) B.tuple (by decide +kernel) (jv 1))) (jw_and (jt_cmp (op_neD hu) o_ne (JE.jb (jv 1)) (JE.jb (je_tup ja_nil)) (nomark _)) (jw_and1 (jt_cmp op_gtO o_gt (JE.jb (jcall o__law_draw (hr.mono (by first | omega | (simp only [Nat.add_eq]; omega))) (pd rfl rfl rfl rfl) (ja_cons (jv 0) (ja_cons je_int ja_nil)))) (JE.jb je_int) (nomark _)))))) (jss_cons (js_set (i := 2) sc__law_spoilt.nd rfl (Or.inl rfl) (jcall o__law_draw (hr.mono (by first | omega | (simp only [Nat.add_eq]; omega))) (pd rfl rfl rfl rfl) (ja_cons (jv 0) (ja_cons (je_callB call_len c_len (by rfl) B.len (by decide +kernel) (JE.jb (jv 1))) ja_nil)))) (jss_one (js_ret (je_op op_addB o_addB (JE.jb (je_op op_addB o_addB (JE.jb (je_slice (JE.jb (jv 1)) jo_no (jo_so (jv 2)))) (JE.jb (je_tup (ja_cons (jcall o__law_spoilt hr (pd rfl rfl rfl rfl) (ja_cons (jv 0) (ja_cons (je_ix ix_seq o_ix (JE.jb (jv 1)) (JE.jb (jv 2)) (fun _ _ => rfl)) ja_nil))) ja_nil))))) (JE.jb (je_slice (JE.jb (jv 1)) (jo_so (je_op op_addB o_addB (JE.jb (jv 2)) (JE.jb je_int))) jo_no)))))) jss_nil) (jss_cons (js_par (i := 3) (j := 4) rfl sc__law_spoilt.nd rfl rfl (jcall o__law_draw (hr.mono (by first | omega | (simp only [Nat.add_eq]; omega))) (pd rfl rfl rfl rfl) (ja_cons (jv 0) (ja_cons je_int ja_nil))) (jcall o__law_strange (hr.mono (by first | omega | (simp only [Nat.add_eq]; omega))) (pd rfl rfl rfl rfl) (ja_cons (jv 0) ja_nil))) (jss_cons (js_if (JW.jt (jw_and (jt_val (je_isi (by rfl) B.isinstance (by rfl) B.tuple (by decide +kernel) (jv 1))) (jw_and1 (jt_cmp op_ltO o_lt (JE.jb (jv 3)) (JE.jb je_int) (nomark _))))) (jss_cons (js_set (i := 2) sc__law_spoilt.nd rfl (Or.inl rfl) (jcall o__law_draw (hr.mono (by first | omega | (simp only [Nat.add_eq]; omega))) (pd rfl rfl rfl rfl) (ja_cons (jv 0) (ja_cons (je_op op_addB o_addB (JE.jb (je_callB call_len c_len (by rfl) B.len (by decide +kernel) (JE.jb (jv 1)))) (JE.jb je_int)) ja_nil)))) (jss_cons (js_if (jt_cmp (op_inB hv) o_in (JE.jb (jv 3)) (JE.jb (je_tup (ja_cons je_int (ja_cons je_int ja_nil)))) (by rfl)) (jss_one (js_ret (je_if (jt_cmp (op_eqD hu) o_eq (JE.jb (jv 3)) (JE.jb je_int) (nomark _)) (je_callTy call_list_of c_lst (by rfl) B.list (by decide +kernel) (JE.jb (jv 1))) (je_op op_addB o_addB (JE.jb (je_slice (JE.jb (jv 1)) (jo_so (jv 2)) jo_no)) (JE.jb (je_slice (JE.jb (jv 1)) jo_no (jo_so (jv 2)))))))) jss_nil) (jss_cons (js_set (i := 5) sc__law_spoilt.nd rfl (Or.inl rfl) (je_if (jt_cmp (op_eqD hu) o_eq (JE.jb (jv 3)) (JE.jb je_int) (nomark _)) (je_tup (ja_cons (jv 4) ja_nil)) (je_if (jt_cmp (op_eqD hu) o_eq (JE.jb (jv 3)) (JE.jb je_int) (nomark _)) (je_slice (JE.jb (jv 1)) (jo_so (jv 2)) (jo_so (je_op op_addB o_addB (JE.jb (jv 2)) (JE.jb je_int)))) (je_tup ja_nil)))) (jss_one (js_ret (je_op op_addB o_addB (JE.jb (je_op op_addB o_addB (JE.jb (je_slice (JE.jb (jv 1)) jo_no (jo_so (jv 2)))) (JE.jb (jv 5)))) (JE.jb (je_slice (JE.jb (jv 1)) (jo_so (je_op op_addB o_addB (JE.jb (jv 2)) (JE.jb (je_if (jt_cmp (op_eqD hu) o_eq (JE.jb (jv 3)) (JE.jb je_int) (nomark _)) je_int je_int)))) jo_no)))))))) jss_nil) (jss_cons (js_if (JW.jt (jw_and (jt_val (je_isi (by rfl) B.isinstance (by rfl) B.str (by decide +kernel) (jv 1))) (jw_and1 (jt_cmp op_ltO o_lt (JE.jb (jv 3)) (JE.jb je_int) (nomark _))))) (jss_cons (js_if (jt_cmp op_ltO o_lt (JE.jb (jv 3)) (JE.jb je_int) (nomark _)) (jss_one (js_ret (je_if (jt_cmp (op_eqD hu) o_eq (JE.jb (jv 3)) (JE.jb je_int) (nomark _)) (je_op op_addB o_addB (JE.jb (jv 1)) (JE.jb je_str)) (je_slice (JE.jb (jv 1)) (jo_so je_int) jo_no)))) jss_nil) (jss_one (js_ret (je_if (jt_cmp (op_eqD hu) o_eq (JE.jb (jv 3)) (JE.jb je_int) (nomark _)) (je_op op_addB o_addB (JE.jb je_str) (JE.jb (jv 1))) (je_if (jt_cmp (op_eqD hu) o_eq (JE.jb (jv 3)) (JE.jb je_int) (nomark _)) (je_upper (JE.jb (jv 1))) (je_op op_addB o_addB (JE.jb (jv 1)) (JE.jb je_str))))))) jss_nil) (jss_cons (js_if (JW.jt (jw_and (jt_val (je_isi (by rfl) B.isinstance (by rfl) B.int (by decide +kernel) (jv 1))) (jw_and1 (jt_cmp op_ltO o_lt (JE.jb (jv 3)) (JE.jb je_int) (nomark _))))) (jss_cons (js_if (jt_cmp op_ltO o_lt (JE.jb (jv 3)) (JE.jb je_int) (nomark _)) (jss_one (js_ret (je_if (jt_cmp (op_eqD hu) o_eq (JE.jb (jv 3)) (JE.jb je_int) (nomark _)) (je_op op_addB o_addB (JE.jb (jv 1)) (JE.jb je_int)) (je_negB (jv 1))))) jss_nil) (jss_one (js_ret (je_if (jt_cmp (op_eqD hu) o_eq (JE.jb (jv 3)) (JE.jb je_int) (nomark _)) (je_callTy call_strB c_strB (by rfl) B.str (by decide +kernel) (JE.jb (jv 1))) (je_if (jt_cmp (op_eqD hu) o_eq (JE.jb (jv 3)) (JE.jb je_int) (nomark _)) (je_cmp (op_eqD hu) o_eq (JE.jb (jv 1)) (JE.jb je_int) (nomark _)) (je_op op_subB o_subB (JE.jb (jv 1)) (JE.jb je_int))))))) jss_nil) (jss_one (js_ret (jv 4))))))))
theorem sc__law_is_number : FnScope ["_law_thing"] ["_law_thing"] (defScope (topS 31)) := ⟨rfl, rfl, rfl, by decide +kernel, rfl, by decide +kernel, by decide +kernel⟩
def s__law_is_number : En → M (Fl × En) := sRet (vAnd (e1 (isiM "int") (eVar 0)) (vAnd (vNot (e1 (isiM "bool") (eVar 0))) (e2 geM (eVar 0) (eC (.int 0)))))
def m__law_is_number : List D → M D := runB 1 s__law_is_number
theorem d__law_is_number (F : Fn0 K mg "_law_is_number" (topS 31) ["_law_thing"]) (B : Blt mg) : Own P w K mg base 1 "_law_is_number" ["_law_thing"] m__law_is_number :=
  own_def F sc__law_is_number fun fa cdv A outer s H G μ E hr => by
    have hu := hr.units
    have hu1 := Nat.lt_of_le_of_lt (Nat.add_le_add_left (by decide : 1 ≤ 65) _) (hv_of hr)
    have hv := hv_of hr
    exact (jss_one (js_ret (je_and (je_isi (by rfl) B.isinstance (by rfl) B.int (by decide +kernel) (jv 0)) (je_and (je_not (je_isi (by rfl) B.isinstance (by rfl) B.bool (by decide +kernel) (jv 0))) (je_one (je_cmp op_geO o_ge (JE.jb (jv 0)) (JE.jb je_int) (nomark _)))))))
theorem sc__law_is_name : FnScope ["_law_thing", "_law_sign"] ["_law_thing"] (defScope (topS 32)) := ⟨rfl, rfl, rfl, by decide +kernel, rfl, by decide +kernel, by decide +kernel⟩
def s__law_is_name : En → M (Fl × En) := sSeq (sIf (tOor (tNt (tBl (e1 (isiM "str") (eVar 0)))) (tNt (tBl (eCh leM leM (eC (.int 1)) (e1 lenM (eVar 0)) (eC (.int 8)))))) (sRet (eC (.bl false))) (sNil)) (sRet (e2 eqM (eL (eLc (iSeq (eVar 0)) (.nm 1) [1] (tBl (e2 notInM (eVar 1) (eC (.str "abcdefghijklmnopqrstuvwxyz")))) (eVar 1))) (eLst (aNil))))
def m__law_is_name : List D → M D := runB 2 s__law_is_name
theorem d__law_is_name (F : Fn0 K mg "_law_is_name" (topS 32) ["_law_thing"]) (B : Blt mg) : Own P w K mg base 1 "_law_is_name" ["_law_thing"] m__law_is_name :=
  own_def F sc__law_is_name fun fa cdv A outer s H G μ E hr => by
    have hu := hr.units
    have hu1 := Nat.lt_of_le_of_lt (Nat.add_le_add_left (by decide : 1 ≤ 65) _) (hv_of hr)
    have hv := hv_of hr
    exact (jss_cons (js_if (JW.jt (jw_or (jt_not (jt_val (je_isi (by rfl) B.isinstance (by rfl) B.str (by decide +kernel) (jv 0)))) (jw_or1 (jt_not (jt_chain op_leO o_le op_leO o_le (JE.jb je_int) (JE.jb (je_callB call_len c_len (by rfl) B.len (by decide +kernel) (JE.jb (jv 0)))) (JE.jb je_int)))))) (jss_one (js_ret je_bl)) jss_nil) (jss_one (js_ret (je_cmp (op_eqD hu) o_eq (JE.jb (JF.je (jf_lc (own := [("_law_sign", 1)]) rfl sc__law_is_name.nd (ji_seq (jv 0)) (blkOk_by (N := ["_law_thing", "_law_sign"]) (sc := defScope (topS 32)) (by decide +kernel)) (by decide) (fun _ _ _ _ _ => (pg_name (i := 1) sc__law_is_name.nd rfl (Or.inl rfl))) (fun _ _ _ _ _ => (jts_one (jt_cmp (op_notInB hv) o_notIn (JE.jb (jv 1)) (JE.jb je_str) (by rfl)))) (fun _ _ _ _ _ => (jv 1))))) (JE.jb (je_lst ja_nil)) (nomark _)))))
theorem sc__law_is_sized : FnScope ["_law_thing", "_law_size"] ["_law_thing", "_law_size"] (defScope (topS 33)) := ⟨rfl, rfl, rfl, by decide +kernel, rfl, by decide +kernel, by decide +kernel⟩
def s__law_is_sized : En → M (Fl × En) := sRet (vAnd (e1 (isiM "tuple") (eVar 0)) (e2 eqM (e1 lenM (eVar 0)) (eVar 1)))
def m__law_is_sized : List D → M D := runB 2 s__law_is_sized
theorem d__law_is_sized (F : Fn0 K mg "_law_is_sized" (topS 33) ["_law_thing", "_law_size"]) (B : Blt mg) : Own P w K mg base 1 "_law_is_sized" ["_law_thing", "_law_size"] m__law_is_sized :=
  own_def F sc__law_is_sized fun fa cdv A outer s H G μ E hr => by
    have hu := hr.units
    have hu1 := Nat.lt_of_le_of_lt (Nat.add_le_add_left (by decide : 1 ≤ 65) _) (hv_of hr)
    have hv := hv_of hr
    exact (jss_one (js_ret (je_and (je_isi (by rfl) B.isinstance (by rfl) B.tuple (by decide +kernel) (jv 0)) (je_one (je_cmp (op_eqD hu) o_eq (JE.jb (je_callB call_len c_len (by rfl) B.len (by decide +kernel) (JE.jb (jv 0)))) (JE.jb (jv 1)) (nomark _))))))
theorem sc__law_is_doing : FnScope ["_law_thing"] ["_law_thing"] (defScope (topS 34)) := ⟨rfl, rfl, rfl, by decide +kernel, rfl, by decide +kernel, by decide +kernel⟩
def s__law_is_doing : En → M (Fl × En) := sSeq (sIf (tBl (eCall 2 m__law_is_sized (aCons (eVar 0) (aCons (eC (.int 2)) (aNil))))) (sRet (vAnd (e2 eqM (e2 ixM (eVar 0) (eC (.int 0))) (eC (.str "do"))) (eCall 1 m__law_is_name (aCons (e2 ixM (eVar 0) (eC (.int 1))) (aNil))))) (sNil)) (sSeq (sIf (tOor (tNt (tBl (eCall 2 m__law_is_sized (aCons (eVar 0) (aCons (eC (.int 3)) (aNil)))))) (tBl (e2 notInM (e2 ixM (eVar 0) (eC (.int 0))) (eTup (aCons (eC (.str "put")) (aCons (eC (.str "take")) (aNil))))))) (sRet (eC (.bl false))) (sNil)) (sRet (vAnd (eCall 1 m__law_is_name (aCons (e2 ixM (eVar 0) (eC (.int 1))) (aNil))) (eCall 1 m__law_is_name (aCons (e2 ixM (eVar 0) (eC (.int 2))) (aNil))))))
def m__law_is_doing : List D → M D := runB 1 s__law_is_doing
theorem d__law_is_doing (F : Fn0 K mg "_law_is_doing" (topS 34) ["_law_thing"]) (B : Blt mg) (o__law_is_sized : Own P w K mg base 1 "_law_is_sized" ["_law_thing", "_law_size"] m__law_is_sized) (o__law_is_name : Own P w K mg base 1 "_law_is_name" ["_law_thing"] m__law_is_name) : Own P w K mg base 2 "_law_is_doing" ["_law_thing"] m__law_is_doing :=
  own_def F sc__law_is_doing fun fa cdv A outer s H G μ E hr => by
    have hu := hr.units
    have hu1 := Nat.lt_of_le_of_lt (Nat.add_le_add_left (by decide : 1 ≤ 65) _) (hv_of hr)
    have hv := hv_of hr
    exact (jss_cons (js_if (jt_val (jcall o__law_is_sized (hr.mono (by decide)) (pd rfl rfl rfl rfl) (ja_cons (jv 0) (ja_cons je_int ja_nil)))) (jss_one (js_ret (je_and (je_cmp (op_eqD hu) o_eq (JE.jb (je_ix ix_seq o_ix (JE.jb (jv 0)) (JE.jb je_int) (fun _ _ => rfl))) (JE.jb je_str) (nomark _)) (je_one (jcall o__law_is_name (hr.mono (by decide)) (pd rfl rfl rfl rfl) (ja_cons (je_ix ix_seq o_ix (JE.jb (jv 0)) (JE.jb je_int) (fun _ _ => rfl)) ja_nil)))))) jss_nil) (jss_cons (js_if (JW.jt (jw_or (jt_not (jt_val (jcall o__law_is_sized (hr.mono (by decide)) (pd rfl rfl rfl rfl) (ja_cons (jv 0) (ja_cons je_int ja_nil))))) (jw_or1 (jt_cmp (op_notInB hv) o_notIn (JE.jb (je_ix ix_seq o_ix (JE.jb (jv 0)) (JE.jb je_int) (fun _ _ => rfl))) (JE.jb (je_tup (ja_cons je_str (ja_cons je_str ja_nil)))) (by rfl))))) (jss_one (js_ret je_bl)) jss_nil) (jss_one (js_ret (je_and (jcall o__law_is_name (hr.mono (by decide)) (pd rfl rfl rfl rfl) (ja_cons (je_ix ix_seq o_ix (JE.jb (jv 0)) (JE.jb je_int) (fun _ _ => rfl)) ja_nil)) (je_one (jcall o__law_is_name (hr.mono (by decide)) (pd rfl rfl rfl rfl) (ja_cons (je_ix ix_seq o_ix (JE.jb (jv 0)) (JE.jb je_int) (fun _ _ => rfl)) ja_nil))))))))
theorem sc__law_is_arrow : FnScope ["_law_thing"] ["_law_thing"] (defScope (topS 35)) := ⟨rfl, rfl, rfl, by decide +kernel, rfl, by decide +kernel, by decide +kernel⟩
def s__law_is_arrow : En → M (Fl × En) := sSeq (sIf (tOor (tNt (tBl (eCall 2 m__law_is_sized (aCons (eVar 0) (aCons (eC (.int 3)) (aNil)))))) (tNt (tBl (eCall 1 m__law_is_doing (aCons (e2 ixM (eVar 0) (eC (.int 1))) (aNil)))))) (sRet (eC (.bl false))) (sNil)) (sRet (vAnd (eCall 1 m__law_is_number (aCons (e2 ixM (eVar 0) (eC (.int 0))) (aNil))) (eCall 1 m__law_is_number (aCons (e2 ixM (eVar 0) (eC (.int 2))) (aNil)))))
def m__law_is_arrow : List D → M D := runB 1 s__law_is_arrow
theorem d__law_is_arrow (F : Fn0 K mg "_law_is_arrow" (topS 35) ["_law_thing"]) (B : Blt mg) (o__law_is_sized : Own P w K mg base 1 "_law_is_sized" ["_law_thing", "_law_size"] m__law_is_sized) (o__law_is_doing : Own P w K mg base 2 "_law_is_doing" ["_law_thing"] m__law_is_doing) (o__law_is_number : Own P w K mg base 1 "_law_is_number" ["_law_thing"] m__law_is_number) : Own P w K mg base 3 "_law_is_arrow" ["_law_thing"] m__law_is_arrow :=
  own_def F sc__law_is_arrow fun fa cdv A outer s H G μ E hr => by
    have hu := hr.units
    have hu1 := Nat.lt_of_le_of_lt (Nat.add_le_add_left (by decide : 1 ≤ 65) _) (hv_of hr)
    have hv := hv_of hr
    exact (jss_cons (js_if (JW.jt (jw_or (jt_not (jt_val (jcall o__law_is_sized (hr.mono (by decide)) (pd rfl rfl rfl rfl) (ja_cons (jv 0) (ja_cons je_int ja_nil))))) (jw_or1 (jt_not (jt_val (jcall o__law_is_doing (hr.mono (by decide)) (pd rfl rfl rfl rfl) (ja_cons (je_ix ix_seq o_ix (JE.jb (jv 0)) (JE.jb je_int) (fun _ _ => rfl)) ja_nil))))))) (jss_one (js_ret je_bl)) jss_nil) (jss_one (js_ret (je_and (jcall o__law_is_number (hr.mono (by decide)) (pd rfl rfl rfl rfl) (ja_cons (je_ix ix_seq o_ix (JE.jb (jv 0)) (JE.jb je_int) (fun _ _ => rfl)) ja_nil)) (je_one (jcall o__law_is_number (hr.mono (by decide)) (pd rfl rfl rfl rfl) (ja_cons (je_ix ix_seq o_ix (JE.jb (jv 0)) (JE.jb je_int) (fun _ _ => rfl)) ja_nil)))))))
theorem sc__law_is_ends : FnScope ["_law_thing", "_law_one", "_law_k"] ["_law_thing"] (defScope (topS 36)) := ⟨rfl, rfl, rfl, by decide +kernel, rfl, by decide +kernel, by decide +kernel⟩
def s__law_is_ends : En → M (Fl × En) := sSeq (sIf (tOor (tNt (tBl (e1 (isiM "tuple") (eVar 0)))) (tBl (e2 neM (eL (eLc (iSeq (eVar 0)) (.nm 1) [1] (tNt (tBl (eCall 1 m__law_is_number (aCons (eVar 1) (aNil))))) (eVar 1))) (eLst (aNil))))) (sRet (eC (.bl false))) (sNil)) (sRet (e2 eqM (eL (eLc (iRange2 (aCons (eC (.int 1)) (aCons (e1 lenM (eVar 0)) (aNil)))) (.nm 2) [2] (tBl (e2 geM (e2 ixM (eVar 0) (e2 subM (eVar 2) (eC (.int 1)))) (e2 ixM (eVar 0) (eVar 2)))) (eVar 2))) (eLst (aNil))))
def m__law_is_ends : List D → M D := runB 3 s__law_is_ends
theorem d__law_is_ends (F : Fn0 K mg "_law_is_ends" (topS 36) ["_law_thing"]) (B : Blt mg) (o__law_is_number : Own P w K mg base 1 "_law_is_number" ["_law_thing"] m__law_is_number) : Own P w K mg base 2 "_law_is_ends" ["_law_thing"] m__law_is_ends :=
  own_def F sc__law_is_ends fun fa cdv A outer s H G μ E hr => by
    have hu := hr.units
    have hu1 := Nat.lt_of_le_of_lt (Nat.add_le_add_left (by decide : 1 ≤ 65) _) (hv_of hr)
    have hv := hv_of hr
    exact (jss_cons (js_if (JW.jt (jw_or (jt_not (jt_val (je_isi (by rfl) B.isinstance (by rfl) B.tuple (by decide +kernel) (jv 0)))) (jw_or1 (jt_cmp (op_neD hu) o_ne (JE.jb (JF.je (jf_lc (own := [("_law_one", 1)]) rfl sc__law_is_ends.nd (ji_seq (jv 0)) (blkOk_by (N := ["_law_thing", "_law_one", "_law_k"]) (sc := defScope (topS 36)) (by decide +kernel)) (by decide) (fun _ _ _ _ _ => (pg_name (i := 1) sc__law_is_ends.nd rfl (Or.inl rfl))) (fun _ _ _ _ _ => (jts_one (jt_not (jt_val (jcall o__law_is_number (hr.mono (by decide)) px (ja_cons (jv 1) ja_nil)))))) (fun _ _ _ _ _ => (jv 1))))) (JE.jb (je_lst ja_nil)) (nomark _))))) (jss_one (js_ret je_bl)) jss_nil) (jss_one (js_ret (je_cmp (op_eqD hu) o_eq (JE.jb (JF.je (jf_lc (own := [("_law_k", 2)]) rfl sc__law_is_ends.nd (ji_range2 (by rfl) B.range (ja_cons je_int (ja_cons (je_callB call_len c_len (by rfl) B.len (by decide +kernel) (JE.jb (jv 0))) ja_nil))) (blkOk_by (N := ["_law_thing", "_law_one", "_law_k"]) (sc := defScope (topS 36)) (by decide +kernel)) (by decide) (fun _ _ _ _ _ => (pg_name (i := 2) sc__law_is_ends.nd rfl (Or.inl rfl))) (fun _ _ _ _ _ => (jts_one (jt_cmp op_geO o_ge (JE.jb (je_ix ix_seq o_ix (JE.jb (jv 0)) (JE.jb (je_op op_sub o_sub (JE.jb (jv 2)) (JE.jb je_int))) (fun _ _ => rfl))) (JE.jb (je_ix ix_seq o_ix (JE.jb (jv 0)) (JE.jb (jv 2)) (fun _ _ => rfl))) (nomark _)))) (fun _ _ _ _ _ => (jv 2))))) (JE.jb (je_lst ja_nil)) (nomark _)))))
theorem sc__law_is_channel : FnScope ["_law_thing", "_law_one"] ["_law_thing"] (defScope (topS 37)) := ⟨rfl, rfl, rfl, by decide +kernel, rfl, by decide +kernel, by decide +kernel⟩
def s__law_is_channel : En → M (Fl × En) := sSeq (sIf (tOor (tNt (tBl (eCall 2 m__law_is_sized (aCons (eVar 0) (aCons (eC (.int 4)) (aNil)))))) (tBl (e2 notInM (e2 ixM (eVar 0) (eC (.int 3))) (eTup (aCons (eC (.str "queue")) (aCons (eC (.str "bag")) (aCons (eC (.str "call")) (aNil)))))))) (sRet (eC (.bl false))) (sNil)) (sRet (vAnd (e2 eqM (eL (eLc (iSeq (eSl (eVar 0) oNo (oSo (eC (.int 3))))) (.nm 1) [1] (tNt (tBl (eCall 1 m__law_is_name (aCons (eVar 1) (aNil))))) (eVar 1))) (eLst (aNil))) (e2 neM (e2 ixM (eVar 0) (eC (.int 1))) (e2 ixM (eVar 0) (eC (.int 2))))))
def m__law_is_channel : List D → M D := runB 2 s__law_is_channel
theorem d__law_is_channel (F : Fn0 K mg "_law_is_channel" (topS 37) ["_law_thing"]) (B : Blt mg) (o__law_is_sized : Own P w K mg base 1 "_law_is_sized" ["_law_thing", "_law_size"] m__law_is_sized) (o__law_is_name : Own P w K mg base 1 "_law_is_name" ["_law_thing"] m__law_is_name) : Own P w K mg base 2 "_law_is_channel" ["_law_thing"] m__law_is_channel :=
  own_def F sc__law_is_channel fun fa cdv A outer s H G μ E hr => by
    have hu := hr.units
    have hu1 := Nat.lt_of_le_of_lt (Nat.add_le_add_left (by decide : 1 ≤ 65) _) (hv_of hr)
    have hv := hv_of hr
    exact (jss_cons (js_if (JW.jt (jw_or (jt_not (jt_val (jcall o__law_is_sized (hr.mono (by decide)) (pd rfl rfl rfl rfl) (ja_cons (jv 0) (ja_cons je_int ja_nil))))) (jw_or1 (jt_cmp (op_notInB hv) o_notIn (JE.jb (je_ix ix_seq o_ix (JE.jb (jv 0)) (JE.jb je_int) (fun _ _ => rfl))) (JE.jb (je_tup (ja_cons je_str (ja_cons je_str (ja_cons je_str ja_nil))))) (by rfl))))) (jss_one (js_ret je_bl)) jss_nil) (jss_one (js_ret (je_and (je_cmp (op_eqD hu) o_eq (JE.jb (JF.je (jf_lc (own := [("_law_one", 1)]) rfl sc__law_is_channel.nd (ji_seq (je_slice (JE.jb (jv 0)) jo_no (jo_so je_int))) (blkOk_by (N := ["_law_thing", "_law_one"]) (sc := defScope (topS 37)) (by decide +kernel)) (by decide) (fun _ _ _ _ _ => (pg_name (i := 1) sc__law_is_channel.nd rfl (Or.inl rfl))) (fun _ _ _ _ _ => (jts_one (jt_not (jt_val (jcall o__law_is_name (hr.mono (by decide)) px (ja_cons (jv 1) ja_nil)))))) (fun _ _ _ _ _ => (jv 1))))) (JE.jb (je_lst ja_nil)) (nomark _)) (je_one (je_cmp (op_neD hu) o_ne (JE.jb (je_ix ix_seq o_ix (JE.jb (jv 0)) (JE.jb je_int) (fun _ _ => rfl))) (JE.jb (je_ix ix_seq o_ix (JE.jb (jv 0)) (JE.jb je_int) (fun _ _ => rfl))) (nomark _)))))))
theorem sc__law_is_party : FnScope ["_law_thing", "_law_one", "_law_k"] ["_law_thing"] (defScope (topS 38)) := ⟨rfl, rfl, rfl, by decide +kernel, rfl, by decide +kernel, by decide +kernel⟩
def s__law_is_party : En → M (Fl × En) := sSeq (sIf (tOor (tNt (tBl (eCall 2 m__law_is_sized (aCons (eVar 0) (aCons (eC (.int 3)) (aNil)))))) (tOor (tNt (tBl (eCall 1 m__law_is_name (aCons (e2 ixM (eVar 0) (eC (.int 0))) (aNil))))) (tNt (tBl (eCall 1 m__law_is_ends (aCons (e2 ixM (eVar 0) (eC (.int 1))) (aNil))))))) (sRet (eC (.bl false))) (sNil)) (sSeq (sIf (tOor (tNt (tBl (e1 (isiM "tuple") (e2 ixM (eVar 0) (eC (.int 2)))))) (tBl (e2 neM (eL (eLc (iSeq (e2 ixM (eVar 0) (eC (.int 2)))) (.nm 1) [1] (tNt (tBl (eCall 1 m__law_is_arrow (aCons (eVar 1) (aNil))))) (eVar 1))) (eLst (aNil))))) (sRet (eC (.bl false))) (sNil)) (sRet (e2 eqM (eL (eLc (iRange1 (aCons (e1 lenM (e2 ixM (eVar 0) (eC (.int 2)))) (aNil))) (.nm 2) [2] (tBl (e2 inM (e2 ixM (e2 ixM (eVar 0) (eC (.int 2))) (eVar 2)) (eSl (e2 ixM (eVar 0) (eC (.int 2))) oNo (oSo (eVar 2))))) (eVar 2))) (eLst (aNil)))))
def m__law_is_party : List D → M D := runB 3 s__law_is_party
theorem d__law_is_party (F : Fn0 K mg "_law_is_party" (topS 38) ["_law_thing"]) (B : Blt mg) (o__law_is_sized : Own P w K mg base 1 "_law_is_sized" ["_law_thing", "_law_size"] m__law_is_sized) (o__law_is_name : Own P w K mg base 1 "_law_is_name" ["_law_thing"] m__law_is_name) (o__law_is_ends : Own P w K mg base 2 "_law_is_ends" ["_law_thing"] m__law_is_ends) (o__law_is_arrow : Own P w K mg base 3 "_law_is_arrow" ["_law_thing"] m__law_is_arrow) : Own P w K mg base 4 "_law_is_party" ["_law_thing"] m__law_is_party :=
  own_def F sc__law_is_party fun fa cdv A outer s H G μ E hr => by
    have hu := hr.units
    have hu1 := Nat.lt_of_le_of_lt (Nat.add_le_add_left (by decide : 1 ≤ 65) _) (hv_of hr)
    have hv := hv_of hr
    exact (jss_cons (js_if (JW.jt (jw_or (jt_not (jt_val (jcall o__law_is_sized (hr.mono (by decide)) (pd rfl rfl rfl rfl) (ja_cons (jv 0) (ja_cons je_int ja_nil))))) (jw_or (jt_not (jt_val (jcall o__law_is_name (hr.mono (by decide)) (pd rfl rfl rfl rfl) (ja_cons (je_ix ix_seq o_ix (JE.jb (jv 0)) (JE.jb je_int) (fun _ _ => rfl)) ja_nil)))) (jw_or1 (jt_not (jt_val (jcall o__law_is_ends (hr.mono (by decide)) (pd rfl rfl rfl rfl) (ja_cons (je_ix ix_seq o_ix (JE.jb (jv 0)) (JE.jb je_int) (fun _ _ => rfl)) ja_nil)))))))) (jss_one (js_ret je_bl)) jss_nil) (jss_cons (js_if (JW.jt (jw_or (jt_not (jt_val (je_isi (by rfl) B.isinstance (by rfl) B.tuple (by decide +kernel) (je_ix ix_seq o_ix (JE.jb (jv 0)) (JE.jb je_int) (fun _ _ => rfl))))) (jw_or1 (jt_cmp (op_neD hu) o_ne (JE.jb (JF.je (jf_lc (own := [("_law_one", 1)]) rfl sc__law_is_party.nd (ji_seq (je_ix ix_seq o_ix (JE.jb (jv 0)) (JE.jb je_int) (fun _ _ => rfl))) (blkOk_by (N := ["_law_thing", "_law_one", "_law_k"]) (sc := defScope (topS 38)) (by decide +kernel)) (by decide) (fun _ _ _ _ _ => (pg_name (i := 1) sc__law_is_party.nd rfl (Or.inl rfl))) (fun _ _ _ _ _ => (jts_one (jt_not (jt_val (jcall o__law_is_arrow (hr.mono (by decide)) px (ja_cons (jv 1) ja_nil)))))) (fun _ _ _ _ _ => (jv 1))))) (JE.jb (je_lst ja_nil)) (nomark _))))) (jss_one (js_ret je_bl)) jss_nil) (jss_one (js_ret (je_cmp (op_eqD hu) o_eq (JE.jb (JF.je (jf_lc (own := [("_law_k", 2)]) rfl sc__law_is_party.nd (ji_range1 (by rfl) B.range (ja_cons (je_callB call_len c_len (by rfl) B.len (by decide +kernel) (JE.jb (je_ix ix_seq o_ix (JE.jb (jv 0)) (JE.jb je_int) (fun _ _ => rfl)))) ja_nil)) (blkOk_by (N := ["_law_thing", "_law_one", "_law_k"]) (sc := defScope (topS 38)) (by decide +kernel)) (by decide) (fun _ _ _ _ _ => (pg_name (i := 2) sc__law_is_party.nd rfl (Or.inl rfl))) (fun _ _ _ _ _ => (jts_one (jt_cmp (op_inB hv) o_in (JE.jb (je_ix ix_seq o_ix (JE.jb (je_ix ix_seq o_ix (JE.jb (jv 0)) (JE.jb je_int) (fun _ _ => rfl))) (JE.jb (jv 2)) (fun _ _ => rfl))) (JE.jb (je_slice (JE.jb (je_ix ix_seq o_ix (JE.jb (jv 0)) (JE.jb je_int) (fun _ _ => rfl))) jo_no (jo_so (jv 2)))) (by rfl)))) (fun _ _ _ _ _ => (jv 2))))) (JE.jb (je_lst ja_nil)) (nomark _))))))
theorem sc__law_is_rising : FnScope ["_law_rows", "_law_k"] ["_law_rows"] (defScope (topS 39)) := ⟨rfl, rfl, rfl, by decide +kernel, rfl, by decide +kernel, by decide +kernel⟩
def s__law_is_rising : En → M (Fl × En) := sRet (e2 eqM (eL (eLc (iRange2 (aCons (eC (.int 1)) (aCons (e1 lenM (eVar 0)) (aNil)))) (.nm 1) [1] (tBl (e2 geM (e2 ixM (e2 ixM (eVar 0) (e2 subM (eVar 1) (eC (.int 1)))) (eC (.int 0))) (e2 ixM (e2 ixM (eVar 0) (eVar 1)) (eC (.int 0))))) (eVar 1))) (eLst (aNil)))
def m__law_is_rising : List D → M D := runB 2 s__law_is_rising
theorem d__law_is_rising (F : Fn0 K mg "_law_is_rising" (topS 39) ["_law_rows"]) (B : Blt mg) : Own P w K mg base 1 "_law_is_rising" ["_law_rows"] m__law_is_rising :=
  own_def F sc__law_is_rising fun fa cdv A outer s H G μ E hr => by
    have hu := hr.units
    have hu1 := Nat.lt_of_le_of_lt (Nat.add_le_add_left (by decide : 1 ≤ 65) _) (hv_of hr)
    have hv := hv_of hr
    exact (jss_one (js_ret (je_cmp (op_eqD hu) o_eq (JE.jb (JF.je (jf_lc (own := [("_law_k", 1)]) rfl sc__law_is_rising.nd (ji_range2 (by rfl) B.range (ja_cons je_int (ja_cons (je_callB call_len c_len (by rfl) B.len (by decide +kernel) (JE.jb (jv 0))) ja_nil))) (blkOk_by (N := ["_law_rows", "_law_k"]) (sc := defScope (topS 39)) (by decide +kernel)) (by decide) (fun _ _ _ _ _ => (pg_name (i := 1) sc__law_is_rising.nd rfl (Or.inl rfl))) (fun _ _ _ _ _ => (jts_one (jt_cmp op_geO o_ge (JE.jb (je_ix ix_seq o_ix (JE.jb (je_ix ix_seq o_ix (JE.jb (jv 0)) (JE.jb (je_op op_sub o_sub (JE.jb (jv 1)) (JE.jb je_int))) (fun _ _ => rfl))) (JE.jb je_int) (fun _ _ => rfl))) (JE.jb (je_ix ix_seq o_ix (JE.jb (je_ix ix_seq o_ix (JE.jb (jv 0)) (JE.jb (jv 1)) (fun _ _ => rfl))) (JE.jb je_int) (fun _ _ => rfl))) (nomark _)))) (fun _ _ _ _ _ => (jv 1))))) (JE.jb (je_lst ja_nil)) (nomark _))))
theorem sc__law_is_owner : FnScope ["_law_party_here", "_law_channels", "_law_puts", "_law_channel", "_law_takes", "_law_put", "_law_arrow", "_law_taken", "_law_way"] ["_law_party_here", "_law_channels"] (defScope (topS 40)) := ⟨rfl, rfl, rfl, by decide +kernel, rfl, by decide +kernel, by decide +kernel⟩
def s__law_is_owner : En → M (Fl × En) := sSeq (sSet 2 (eL (eLc (iSeq (eVar 1)) (.nm 3) [3] (tBl (e2 eqM (e2 ixM (eVar 3) (eC (.int 1))) (e2 ixM (eVar 0) (eC (.int 0))))) (e2 ixM (eVar 3) (eC (.int 0)))))) (sSeq (sSet 4 (eL (eLc (iSeq (eVar 1)) (.nm 3) [3] (tBl (e2 eqM (e2 ixM (eVar 3) (eC (.int 2))) (e2 ixM (eVar 0) (eC (.int 0))))) (e2 ixM (eVar 3) (eC (.int 0)))))) (sSeq (sSet 5 (eL (eLc (iSeq (e2 ixM (eVar 0) (eC (.int 2)))) (.nm 6) [6] (tBl (e2 eqM (e2 ixM (e2 ixM (eVar 6) (eC (.int 1))) (eC (.int 0))) (eC (.str "put")))) (e2 ixM (e2 ixM (eVar 6) (eC (.int 1))) (eC (.int 1)))))) (sSeq (sSet 7 (eL (eLc (iSeq (e2 ixM (eVar 0) (eC (.int 2)))) (.nm 6) [6] (tBl (e2 eqM (e2 ixM (e2 ixM (eVar 6) (eC (.int 1))) (eC (.int 0))) (eC (.str "take")))) (e2 ixM (e2 ixM (eVar 6) (eC (.int 1))) (eC (.int 1)))))) (sRet (e2 eqM (e2 addM (eL (eLc (iSeq (eVar 5)) (.nm 8) [8] (tBl (e2 notInM (eVar 8) (eVar 2))) (eVar 8))) (eL (eLc (iSeq (eVar 7)) (.nm 8) [8] (tBl (e2 notInM (eVar 8) (eVar 4))) (eVar 8)))) (eLst (aNil)))))))
def m__law_is_owner : List D → M D := runB 9 s__law_is_owner
theorem d__law_is_owner (F : Fn0 K mg "_law_is_owner" (topS 40) ["_law_party_here", "_law_channels"]) (B : Blt mg) : Own P w K mg base 1 "_law_is_owner" ["_law_party_here", "_law_channels"] m__law_is_owner :=
  own_def F sc__law_is_owner fun fa cdv A outer s H G μ E hr => by
    have hu := hr.units
    have hu1 := Nat.lt_of_le_of_lt (Nat.add_le_add_left (by decide : 1 ≤ 65) _) (hv_of hr)
    have hv := hv_of hr
    exact (jss_cons (js_set (i := 2) sc__law_is_owner.nd rfl (Or.inr rfl) (JF.je (jf_lc (own := [("_law_channel", 3)]) rfl sc__law_is_owner.nd (ji_seq (jv 1)) (blkOk_by (N := ["_law_party_here", "_law_channels", "_law_puts", "_law_channel", "_law_takes", "_law_put", "_law_arrow", "_law_taken", "_law_way"]) (sc := defScope (topS 40)) (by decide +kernel)) (by decide) (fun _ _ _ _ _ => (pg_name (i := 3) sc__law_is_owner.nd rfl (Or.inl rfl))) (fun _ _ _ _ _ => (jts_one (jt_cmp (op_eqD hu) o_eq (JE.jb (je_ix ix_seq o_ix (JE.jb (jv 3)) (JE.jb je_int) (fun _ _ => rfl))) (JE.jb (je_ix ix_seq o_ix (JE.jb (jv 0)) (JE.jb je_int) (fun _ _ => rfl))) (nomark _)))) (fun _ _ _ _ _ => (je_ix ix_seq o_ix (JE.jb (jv 3)) (JE.jb je_int) (fun _ _ => rfl)))))) (jss_cons (js_set (i := 4) sc__law_is_owner.nd rfl (Or.inr rfl) (JF.je (jf_lc (own := [("_law_channel", 3)]) rfl sc__law_is_owner.nd (ji_seq (jv 1)) (blkOk_by (N := ["_law_party_here", "_law_channels", "_law_puts", "_law_channel", "_law_takes", "_law_put", "_law_arrow", "_law_taken", "_law_way"]) (sc := defScope (topS 40)) (by decide +kernel)) (by decide) (fun _ _ _ _ _ => (pg_name (i := 3) sc__law_is_owner.nd rfl (Or.inl rfl))) (fun _ _ _ _ _ => (jts_one (jt_cmp (op_eqD hu) o_eq (JE.jb (je_ix ix_seq o_ix (JE.jb (jv 3)) (JE.jb je_int) (fun _ _ => rfl))) (JE.jb (je_ix ix_seq o_ix (JE.jb (jv 0)) (JE.jb je_int) (fun _ _ => rfl))) (nomark _)))) (fun _ _ _ _ _ => (je_ix ix_seq o_ix (JE.jb (jv 3)) (JE.jb je_int) (fun _ _ => rfl)))))) (jss_cons (js_setLc (i := 5) (own := [("_law_arrow", 6)]) rfl sc__law_is_owner.nd rfl rfl (sw_true rfl rfl rfl (by decide +kernel)) (ji_seq (je_ix ix_seq o_ix (JE.jb (jv 0)) (JE.jb je_int) (fun _ _ => rfl))) (blkOk_by (N := ["_law_party_here", "_law_channels", "_law_puts", "_law_channel", "_law_takes", "_law_put", "_law_arrow", "_law_taken", "_law_way"]) (sc := defScope (topS 40)) (by decide +kernel)) (by decide) (fun _ _ _ _ _ => (pg_name (i := 6) sc__law_is_owner.nd rfl (Or.inl rfl))) (fun _ _ _ _ _ => (jts_one (jt_cmp (op_eqD hu) o_eq (JE.jb (je_ix ix_seq o_ix (JE.jb (je_ix ix_seq o_ix (JE.jb (jv 6)) (JE.jb je_int) (fun _ _ => rfl))) (JE.jb je_int) (fun _ _ => rfl))) (JE.jb je_str) (nomark _)))) (fun _ _ _ _ _ => (je_ix ix_seq o_ix (JE.jb (je_ix ix_seq o_ix (JE.jb (jv 6)) (JE.jb je_int) (fun _ _ => rfl))) (JE.jb je_int) (fun _ _ => rfl)))) (jss_cons (js_setLc (i := 7) (own := [("_law_arrow", 6)]) rfl sc__law_is_owner.nd rfl rfl (sw_true rfl rfl rfl (by decide +kernel)) (ji_seq (je_ix ix_seq o_ix (JE.jb (jv 0)) (JE.jb je_int) (fun _ _ => rfl))) (blkOk_by (N := ["_law_party_here", "_law_channels", "_law_puts", "_law_channel", "_law_takes", "_law_put", "_law_arrow", "_law_taken", "_law_way"]) (sc := defScope (topS 40)) (by decide +kernel)) (by decide) (fun _ _ _ _ _ => (pg_name (i := 6) sc__law_is_owner.nd rfl (Or.inl rfl))) (fun _ _ _ _ _ => (jts_one (jt_cmp (op_eqD hu) o_eq (JE.jb (je_ix ix_seq o_ix (JE.jb (je_ix ix_seq o_ix (JE.jb (jv 6)) (JE.jb je_int) (fun _ _ => rfl))) (JE.jb je_int) (fun _ _ => rfl))) (JE.jb je_str) (nomark _)))) (fun _ _ _ _ _ => (je_ix ix_seq o_ix (JE.jb (je_ix ix_seq o_ix (JE.jb (jv 6)) (JE.jb je_int) (fun _ _ => rfl))) (JE.jb je_int) (fun _ _ => rfl)))) (jss_one (js_ret (je_cmp (op_eqD hu) o_eq (JE.jb (je_op op_addA o_add (JE.jb (JF.je (jf_lc (own := [("_law_way", 8)]) rfl sc__law_is_owner.nd (ji_seq (jv 5)) (blkOk_by (N := ["_law_party_here", "_law_channels", "_law_puts", "_law_channel", "_law_takes", "_law_put", "_law_arrow", "_law_taken", "_law_way"]) (sc := defScope (topS 40)) (by decide +kernel)) (by decide) (fun _ _ _ _ _ => (pg_name (i := 8) sc__law_is_owner.nd rfl (Or.inl rfl))) (fun _ _ _ _ _ => (jts_one (jt_cmp (op_notInB hv) o_notIn (JE.jb (jv 8)) (JE.jb (jv 2)) (by rfl)))) (fun _ _ _ _ _ => (jv 8))))) (JE.jb (JF.je (jf_lc (own := [("_law_way", 8)]) rfl sc__law_is_owner.nd (ji_seq (jv 7)) (blkOk_by (N := ["_law_party_here", "_law_channels", "_law_puts", "_law_channel", "_law_takes", "_law_put", "_law_arrow", "_law_taken", "_law_way"]) (sc := defScope (topS 40)) (by decide +kernel)) (by decide) (fun _ _ _ _ _ => (pg_name (i := 8) sc__law_is_owner.nd rfl (Or.inl rfl))) (fun _ _ _ _ _ => (jts_one (jt_cmp (op_notInB hv) o_notIn (JE.jb (jv 8)) (JE.jb (jv 4)) (by rfl)))) (fun _ _ _ _ _ => (jv 8))))))) (JE.jb (je_lst ja_nil)) (nomark _))))))))
theorem sc__law_is_program : FnScope ["_law_thing", "_law_one", "_law_folk", "_law_party_here"] ["_law_thing"] (defScope (topS 41)) := ⟨rfl, rfl, rfl, by decide +kernel, rfl, by decide +kernel, by decide +kernel⟩
def s__law_is_program : En → M (Fl × En) := sSeq (sIf (tOor (tNt (tBl (eCall 2 m__law_is_sized (aCons (eVar 0) (aCons (eC (.int 2)) (aNil)))))) (tOor (tNt (tBl (e1 (isiM "tuple") (e2 ixM (eVar 0) (eC (.int 0)))))) (tNt (tBl (e1 (isiM "tuple") (e2 ixM (eVar 0) (eC (.int 1)))))))) (sRet (eC (.bl false))) (sNil)) (sSeq (sIf (tBl (e2 neM (eL (eLc (iSeq (e2 ixM (eVar 0) (eC (.int 0)))) (.nm 1) [1] (tNt (tBl (eCall 1 m__law_is_party (aCons (eVar 1) (aNil))))) (eVar 1))) (eLst (aNil)))) (sRet (eC (.bl false))) (sNil)) (sSeq (sIf (tBl (e2 neM (eL (eLc (iSeq (e2 ixM (eVar 0) (eC (.int 1)))) (.nm 1) [1] (tNt (tBl (eCall 1 m__law_is_channel (aCons (eVar 1) (aNil))))) (eVar 1))) (eLst (aNil)))) (sRet (eC (.bl false))) (sNil)) (sSeq (sSet 2 (eL (eLc (iSeq (e2 ixM (eVar 0) (eC (.int 0)))) (.nm 3) [3] (tTrue) (e2 ixM (eVar 3) (eC (.int 0)))))) (sSeq (sIf (tBl (e2 neM (eL (eLc (iSeq (e2 ixM (eVar 0) (eC (.int 1)))) (.nm 1) [1] (tOor (tBl (e2 notInM (e2 ixM (eVar 1) (eC (.int 1))) (eVar 2))) (tBl (e2 notInM (e2 ixM (eVar 1) (eC (.int 2))) (eVar 2)))) (eVar 1))) (eLst (aNil)))) (sRet (eC (.bl false))) (sNil)) (sSeq (sIf (tOor (tNt (tBl (eCall 1 m__law_is_rising (aCons (e2 ixM (eVar 0) (eC (.int 0))) (aNil))))) (tNt (tBl (eCall 1 m__law_is_rising (aCons (e2 ixM (eVar 0) (eC (.int 1))) (aNil)))))) (sRet (eC (.bl false))) (sNil)) (sRet (e2 eqM (eL (eLc (iSeq (e2 ixM (eVar 0) (eC (.int 0)))) (.nm 3) [3] (tNt (tBl (eCall 2 m__law_is_owner (aCons (eVar 3) (aCons (e2 ixM (eVar 0) (eC (.int 1))) (aNil)))))) (eVar 3))) (eLst (aNil)))))))))
def m__law_is_program : List D → M D := runB 4 s__law_is_program
theorem d__law_is_program (F : Fn0 K mg "_law_is_program" (topS 41) ["_law_thing"]) (B : Blt mg) (o__law_is_sized : Own P w K mg base 1 "_law_is_sized" ["_law_thing", "_law_size"] m__law_is_sized) (o__law_is_party : Own P w K mg base 4 "_law_is_party" ["_law_thing"] m__law_is_party) (o__law_is_channel : Own P w K mg base 2 "_law_is_channel" ["_law_thing"] m__law_is_channel) (o__law_is_rising : Own P w K mg base 1 "_law_is_rising" ["_law_rows"] m__law_is_rising) (o__law_is_owner : Own P w K mg base 1 "_law_is_owner" ["_law_party_here", "_law_channels"] m__law_is_owner) : Own P w K mg base 5 "_law_is_program" ["_law_thing"] m__law_is_program :=
  own_def F sc__law_is_program fun fa cdv A outer s H G μ E hr => by
    have hu := hr.units
    have hu1 := Nat.lt_of_le_of_lt (Nat.add_le_add_left (by decide : 1 ≤ 65) _) (hv_of hr)
    have hv := hv_of hr
    exact (jss_cons (js_if (JW.jt (jw_or (jt_not (jt_val (jcall o__law_is_sized (hr.mono (by decide)) (pd rfl rfl rfl rfl) (ja_cons (jv 0) (ja_cons je_int ja_nil))))) (jw_or (jt_not (jt_val (je_isi (by rfl) B.isinstance (by rfl) B.tuple (by decide +kernel) (je_ix ix_seq o_ix (JE.jb (jv 0)) (JE.jb je_int) (fun _ _ => rfl))))) (jw_or1 (jt_not (jt_val (je_isi (by rfl) B.isinstance (by rfl) B.tuple (by decide +kernel) (je_ix ix_seq o_ix (JE.jb (jv 0)) (JE.jb je_int) (fun _ _ => rfl))))))))) (jss_one (js_ret je_bl)) jss_nil) (jss_cons (js_if (jt_cmp (op_neD hu) o_ne (JE.jb (JF.je (jf_lc (own := [("_law_one", 1)]) rfl sc__law_is_program.nd (ji_seq (je_ix ix_seq o_ix (JE.jb (jv 0)) (JE.jb je_int) (fun _ _ => rfl))) (blkOk_by (N := ["_law_thing", "_law_one", "_law_folk", "_law_party_here"]) (sc := defScope (topS 41)) (by decide +kernel)) (by decide) (fun _ _ _ _ _ => (pg_name (i := 1) sc__law_is_program.nd rfl (Or.inl rfl))) (fun _ _ _ _ _ => (jts_one (jt_not (jt_val (jcall o__law_is_party (hr.mono (by decide)) px (ja_cons (jv 1) ja_nil)))))) (fun _ _ _ _ _ => (jv 1))))) (JE.jb (je_lst ja_nil)) (nomark _)) (jss_one (js_ret je_bl)) jss_nil) (jss_cons (js_if (jt_cmp (op_neD hu) o_ne (JE.jb (JF.je (jf_lc (own := [("_law_one", 1)]) rfl sc__law_is_program.nd (ji_seq (je_ix ix_seq o_ix (JE.jb (jv 0)) (JE.jb je_int) (fun _ _ => rfl))) (blkOk_by (N := ["_law_thing", "_law_one", "_law_folk", "_law_party_here"]) (sc := defScope (topS 41)) (by decide +kernel)) (by decide) (fun _ _ _ _ _ => (pg_name (i := 1) sc__law_is_program.nd rfl (Or.inl rfl))) (fun _ _ _ _ _ => (jts_one (jt_not (jt_val (jcall o__law_is_channel (hr.mono (by decide)) px (ja_cons (jv 1) ja_nil)))))) (fun _ _ _ _ _ => (jv 1))))) (JE.jb (je_lst ja_nil)) (nomark _)) (jss_one (js_ret je_bl)) jss_nil) (jss_cons (js_set (i := 2) sc__law_is_program.nd rfl (Or.inr rfl) (JF.je (jf_lc (own := [("_law_party_here", 3)]) rfl sc__law_is_program.nd (ji_seq (je_ix ix_seq o_ix (JE.jb (jv 0)) (JE.jb je_int) (fun _ _ => rfl))) (blkOk_by (N := ["_law_thing", "_law_one", "_law_folk", "_law_party_here"]) (sc := defScope (topS 41)) (by decide +kernel)) (by decide) (fun _ _ _ _ _ => (pg_name (i := 3) sc__law_is_program.nd rfl (Or.inl rfl))) (fun _ _ _ _ _ => jts_nil) (fun _ _ _ _ _ => (je_ix ix_seq o_ix (JE.jb (jv 3)) (JE.jb je_int) (fun _ _ => rfl)))))) (jss_cons (js_if (jt_cmp (op_neD hu) o_ne (JE.jb (JF.je (jf_lc (own := [("_law_one", 1)]) rfl sc__law_is_program.nd (ji_seq (je_ix ix_seq o_ix (JE.jb (jv 0)) (JE.jb je_int) (fun _ _ => rfl))) (blkOk_by (N := ["_law_thing", "_law_one", "_law_folk", "_law_party_here"]) (sc := defScope (topS 41)) (by decide +kernel)) (by decide) (fun _ _ _ _ _ => (pg_name (i := 1) sc__law_is_program.nd rfl (Or.inl rfl))) (fun _ _ _ _ _ => (jts_one (JW.jt (jw_or (jt_cmp (op_notInB hv) o_notIn (JE.jb (je_ix ix_seq o_ix (JE.jb (jv 1)) (JE.jb je_int) (fun _ _ => rfl))) (JE.jb (jv 2)) (by rfl)) (jw_or1 (jt_cmp (op_notInB hv) o_notIn (JE.jb (je_ix ix_seq o_ix (JE.jb (jv 1)) (JE.jb je_int) (fun _ _ => rfl))) (JE.jb (jv 2)) (by rfl))))))) (fun _ _ _ _ _ => (jv 1))))) (JE.jb (je_lst ja_nil)) (nomark _)) (jss_one (js_ret je_bl)) jss_nil) (jss_cons (js_if (JW.jt (jw_or (jt_not (jt_val (jcall o__law_is_rising (hr.mono (by decide)) (pd rfl rfl rfl rfl) (ja_cons (je_ix ix_seq o_ix (JE.jb (jv 0)) (JE.jb je_int) (fun _ _ => rfl)) ja_nil)))) (jw_or1 (jt_not (jt_val (jcall o__law_is_rising (hr.mono (by decide)) (pd rfl rfl rfl rfl) (ja_cons (je_ix ix_seq o_ix (JE.jb (jv 0)) (JE.jb je_int) (fun _ _ => rfl)) ja_nil))))))) (jss_one (js_ret je_bl)) jss_nil) (jss_one (js_ret (je_cmp (op_eqD hu) o_eq (JE.jb (JF.je (jf_lc (own := [("_law_party_here", 3)]) rfl sc__law_is_program.nd (ji_seq (je_ix ix_seq o_ix (JE.jb (jv 0)) (JE.jb je_int) (fun _ _ => rfl))) (blkOk_by (N := ["_law_thing", "_law_one", "_law_folk", "_law_party_here"]) (sc := defScope (topS 41)) (by decide +kernel)) (by decide) (fun _ _ _ _ _ => (pg_name (i := 3) sc__law_is_program.nd rfl (Or.inl rfl))) (fun _ _ _ _ _ => (jts_one (jt_not (jt_val (jcall o__law_is_owner (hr.mono (by decide)) px (ja_cons (jv 3) (ja_cons (je_ix ix_seq o_ix (JE.jb (jv 0)) (JE.jb je_int) (fun _ _ => rfl)) ja_nil))))))) (fun _ _ _ _ _ => (jv 3))))) (JE.jb (je_lst ja_nil)) (nomark _))))))))))
theorem sc__law_plain_things : FnScope ["_law_things"] [] (defScope (topS 43)) := ⟨rfl, rfl, rfl, by decide +kernel, rfl, by decide +kernel, by decide +kernel⟩
def s__law_plain_things : En → M (Fl × En) := sSeq (sOwn 0 (fLst (aCons (eNeg (eC (.int 1))) (aCons (eC (.int 0)) (aCons (eC (.int 1)) (aCons (e2 powM (eC (.int 10)) (eC (.int 59))) (aCons (eNeg (e2 powM (eC (.int 10)) (eC (.int 59)))) (aCons (eC (.bl true)) (aCons (eC (.bl false)) (aCons (eC .non) (aCons (eC (.str "")) (aCons (eC (.str "a")) (aCons (eC (.str "z")) (aCons (eC (.str "abcdefgh")) (aCons (eC (.str "abcdefghi")) (aCons (eC (.str "aB")) (aCons (eC (.str "A")) (aCons (eC (.str "0")) (aNil))))))))))))))))))) (sSeq (sExt 0 (eLst (aCons (eC (.str "a b")) (aCons (e2 mulSM (eC (.str "a")) (eC (.int 9))) (aCons (eC (.str "zzzzzzzz")) (aCons (eC (.str "a-")) (aCons (eC (.str "a_b")) (aCons (eC (.str "a~")) (aCons (eC (.str "!a")) (aCons (eC (.str "{")) (aCons (eTup (aNil)) (aCons (eLst (aNil)) (aCons (eTup (aCons (eTup (aNil)) (aNil))) (aCons (eTup (aCons (eTup (aNil)) (aCons (eTup (aNil)) (aNil)))) (aCons (eTup (aCons (eTup (aNil)) (aCons (eTup (aNil)) (aCons (eTup (aNil)) (aNil))))) (aNil)))))))))))))))) (sFrz 0 (sRet (eVar 0))))
def m__law_plain_things : List D → M D := runB 1 s__law_plain_things
theorem d__law_plain_things (F : Fn0 K mg "_law_plain_things" (topS 43) []) (B : Blt mg) : Own P w K mg base 1 "_law_plain_things" [] m__law_plain_things :=
  own_def F sc__law_plain_things fun fa cdv A outer s H G μ E hr => by
    have hu := hr.units
    have hu1 := Nat.lt_of_le_of_lt (Nat.add_le_add_left (by decide : 1 ≤ 65) _) (hv_of hr)
    have hv := hv_of hr
    exact (jss_cons (js_own (i := 0) sc__law_plain_things.nd rfl (Or.inl rfl) (jf_lst (ja_cons (je_neg je_int) (ja_cons je_int (ja_cons je_int (ja_cons (je_op op_pow o_pow (JE.jb je_int) (JE.jb je_int)) (ja_cons (je_neg (je_op op_pow o_pow (JE.jb je_int) (JE.jb je_int))) (ja_cons je_bl (ja_cons je_bl (ja_cons je_non (ja_cons je_str (ja_cons je_str (ja_cons je_str (ja_cons je_str (ja_cons je_str (ja_cons je_str (ja_cons je_str (ja_cons je_str ja_nil)))))))))))))))))) (jss_cons (js_ext (i := 0) rfl (Or.inl rfl) (je_lst (ja_cons je_str (ja_cons (je_op op_mulS o_mulS (JE.jb je_str) (JE.jb je_int)) (ja_cons je_str (ja_cons je_str (ja_cons je_str (ja_cons je_str (ja_cons je_str (ja_cons je_str (ja_cons (je_tup ja_nil) (ja_cons (je_lst ja_nil) (ja_cons (je_tup (ja_cons (je_tup ja_nil) ja_nil)) (ja_cons (je_tup (ja_cons (je_tup ja_nil) (ja_cons (je_tup ja_nil) ja_nil))) (ja_cons (je_tup (ja_cons (je_tup ja_nil) (ja_cons (je_tup ja_nil) (ja_cons (je_tup ja_nil) ja_nil)))) ja_nil)))))))))))))) (hb := fun ho ha => pe_bm PySem.F.plainAttrs_list PySem.F.slot_list_extend PySem.F.type_list_extend mt_extend ho ha)) (jss_one (js_frz (i := 0) (js_ret (jv 0))))))
theorem sc__law_plain_tuples : FnScope ["_law_things"] [] (defScope (topS 44)) := ⟨rfl, rfl, rfl, by decide +kernel, rfl, by decide +kernel, by decide +kernel⟩
def s__law_plain_tuples : En → M (Fl × En) := sSeq (sOwn 0 (fLst (aCons (eTup (aCons (eC (.str "do")) (aCons (eC (.str "go")) (aNil)))) (aCons (eTup (aCons (eC (.str "do")) (aCons (eC (.str "do")) (aNil)))) (aCons (eTup (aCons (eC (.str "do")) (aNil))) (aCons (eTup (aCons (eC (.str "do")) (aCons (eC (.str "go")) (aCons (eC (.str "go")) (aNil))))) (aCons (eTup (aCons (eC (.str "put")) (aCons (eC (.str "x")) (aNil)))) (aCons (eTup (aCons (eC (.str "put")) (aCons (eC (.str "x")) (aCons (eC (.str "y")) (aNil))))) (aNil))))))))) (sSeq (sExt 0 (eLst (aCons (eTup (aCons (eC (.str "take")) (aCons (eC (.str "x")) (aCons (eC (.str "y")) (aNil))))) (aCons (eTup (aCons (eC (.str "give")) (aCons (eC (.str "x")) (aCons (eC (.str "y")) (aNil))))) (aCons (eTup (aCons (eC (.str "put")) (aCons (eC (.str "x")) (aCons (eC (.str "y")) (aCons (eC (.str "z")) (aNil)))))) (aCons (eLst (aCons (eC (.str "do")) (aCons (eC (.str "go")) (aNil)))) (aCons (eTup (aCons (eC (.str "do")) (aCons (eC (.str "Go")) (aNil)))) (aNil)))))))) (sSeq (sExt 0 (eLst (aCons (eTup (aCons (eC (.str "take")) (aCons (eC (.str "")) (aCons (eC (.str "y")) (aNil))))) (aCons (eTup (aCons (eC (.str "take")) (aCons (eC (.str "x")) (aCons (eC (.str "Y")) (aNil))))) (aCons (eTup (aCons (eC (.str "go")) (aCons (eC (.str "do")) (aNil)))) (aCons (eTup (aCons (eC (.str "put")) (aCons (eC (.str "do")) (aCons (eC (.str "put")) (aNil))))) (aCons (eTup (aCons (eC (.str "do")) (aCons (eC (.str "put")) (aCons (eC (.str "x")) (aNil))))) (aNil)))))))) (sSeq (sExt 0 (eLst (aCons (eTup (aCons (eC (.str "a")) (aCons (eC (.int 0)) (aNil)))) (aCons (eTup (aCons (eC (.str "a")) (aCons (eC (.bl true)) (aNil)))) (aCons (eTup (aCons (eC (.str "a")) (aCons (eNeg (eC (.int 1))) (aNil)))) (aCons (eTup (aCons (eC (.str "abcdefghi")) (aCons (eC (.int 0)) (aNil)))) (aCons (eTup (aCons (eC (.int 0)) (aCons (eC (.str "a")) (aNil)))) (aCons (eLst (aCons (eC (.str "a")) (aCons (eC (.int 0)) (aNil)))) (aCons (eTup (aCons (eC (.str "a")) (aCons (eC (.int 0)) (aCons (eC (.int 0)) (aNil))))) (aNil)))))))))) (sSeq (sExt 0 (eLst (aCons (eTup (aCons (eC (.str "a")) (aCons (e2 powM (eC (.int 10)) (eC (.int 59))) (aNil)))) (aCons (eTup (aCons (eC (.int 0)) (aCons (eTup (aCons (eC (.str "do")) (aCons (eC (.str "a")) (aNil)))) (aCons (eC (.int 0)) (aNil))))) (aCons (eTup (aCons (eC (.bl true)) (aCons (eTup (aCons (eC (.str "do")) (aCons (eC (.str "a")) (aNil)))) (aCons (eC (.int 0)) (aNil))))) (aCons (eTup (aCons (eC (.int 0)) (aCons (eTup (aCons (eC (.str "do")) (aCons (eC (.str "a")) (aNil)))) (aCons (eNeg (eC (.int 1))) (aNil))))) (aNil))))))) (sSeq (sExt 0 (eLst (aCons (eTup (aCons (eC (.int 0)) (aCons (eLst (aCons (eC (.str "do")) (aCons (eC (.str "a")) (aNil)))) (aCons (eC (.int 0)) (aNil))))) (aCons (eTup (aCons (eC (.int 0)) (aCons (eTup (aCons (eC (.str "do")) (aCons (eC (.str "a")) (aNil)))) (aNil)))) (aCons (eTup (aCons (eC (.int 0)) (aCons (eTup (aCons (eC (.str "do")) (aCons (eC (.str "a")) (aNil)))) (aCons (eC (.bl false)) (aNil))))) (aCons (eTup (aCons (eC (.int 0)) (aCons (eTup (aCons (eC (.str "do")) (aCons (eC (.str "a")) (aNil)))) (aCons (e2 powM (eC (.int 10)) (eC (.int 59))) (aNil))))) (aNil))))))) (sSeq (sExt 0 (eLst (aCons (eTup (aCons (eC (.str "a")) (aCons (eC (.str "b")) (aCons (eC (.str "c")) (aCons (eC (.str "bag")) (aNil)))))) (aCons (eTup (aCons (eC (.str "a")) (aCons (eC (.str "b")) (aCons (eC (.str "b")) (aCons (eC (.str "bag")) (aNil)))))) (aCons (eTup (aCons (eC (.str "a")) (aCons (eC (.str "a")) (aCons (eC (.str "b")) (aCons (eC (.str "call")) (aNil)))))) (aCons (eTup (aCons (eC (.str "a")) (aCons (eC (.str "b")) (aCons (eC (.str "c")) (aCons (eC (.str "Bag")) (aNil)))))) (aNil))))))) (sSeq (sExt 0 (eLst (aCons (eTup (aCons (eC (.str "a")) (aCons (eC (.str "b")) (aCons (eC (.str "c")) (aNil))))) (aCons (eTup (aCons (eC (.str "a")) (aCons (eC (.str "b")) (aCons (eC (.str "c")) (aCons (eC (.str "queue")) (aCons (eC (.str "d")) (aNil))))))) (aCons (eLst (aCons (eC (.str "a")) (aCons (eC (.str "b")) (aCons (eC (.str "c")) (aCons (eC (.str "queue")) (aNil)))))) (aCons (eTup (aCons (eC (.str "a")) (aCons (eC (.str "b")) (aCons (eC (.int 0)) (aCons (eC (.str "queue")) (aNil)))))) (aNil))))))) (sSeq (sExt 0 (eLst (aCons (eTup (aCons (eC (.str "a")) (aCons (eTup (aNil)) (aCons (eTup (aNil)) (aNil))))) (aCons (eTup (aCons (eC (.str "a")) (aCons (eTup (aCons (eC (.int 0)) (aCons (eC (.int 10)) (aCons (eC (.int 9)) (aNil))))) (aCons (eTup (aNil)) (aNil))))) (aCons (eTup (aCons (eC (.str "a")) (aCons (eTup (aCons (eC (.int 9)) (aCons (eC (.int 10)) (aNil)))) (aCons (eTup (aNil)) (aNil))))) (aCons (eTup (aCons (eC (.str "a")) (aCons (eTup (aCons (eC (.int 1)) (aCons (eC (.int 1)) (aNil)))) (aCons (eTup (aNil)) (aNil))))) (aCons (eTup (aCons (eC (.str "a")) (aCons (eLst (aCons (eC (.int 0)) (aNil))) (aCons (eTup (aNil)) (aNil))))) (aNil)))))))) (sSeq (sApp 0 (eTup (aCons (eC (.str "a")) (aCons (eTup (aNil)) (aCons (eLst (aNil)) (aNil)))))) (sSeq (sExt 0 (eLst (aCons (eTup (aCons (eC (.str "a")) (aCons (eTup (aCons (eC (.bl true)) (aNil))) (aCons (eTup (aNil)) (aNil))))) (aCons (eTup (aCons (eC (.str "a")) (aCons (eTup (aCons (eC (.int 0)) (aNil))) (aCons (eTup (aCons (eTup (aCons (eC (.int 0)) (aCons (eTup (aCons (eC (.str "do")) (aCons (eC (.str "a")) (aNil)))) (aCons (eC (.int 0)) (aNil))))) (aCons (eTup (aCons (eC (.int 0)) (aCons (eTup (aCons (eC (.str "do")) (aCons (eC (.str "a")) (aNil)))) (aCons (eC (.int 0)) (aNil))))) (aNil)))) (aNil))))) (aCons (eTup (aCons (eC (.str "a")) (aCons (eTup (aCons (eC (.int 0)) (aCons (eC (.int 1)) (aNil)))) (aCons (eTup (aCons (eC (.int 0)) (aNil))) (aNil))))) (aNil)))))) (sSeq (sExt 0 (eLst (aCons (eTup (aCons (eC (.str "a")) (aCons (eTup (aNil)) (aCons (eTup (aCons (eTup (aCons (eC (.int 0)) (aCons (eTup (aCons (eC (.str "do")) (aCons (eC (.str "a")) (aNil)))) (aCons (eC (.int 0)) (aNil))))) (aCons (eTup (aCons (eC (.int 0)) (aCons (eTup (aCons (eC (.str "do")) (aCons (eC (.str "a")) (aNil)))) (aCons (eC (.int 1)) (aNil))))) (aCons (eTup (aCons (eC (.int 0)) (aCons (eTup (aCons (eC (.str "do")) (aCons (eC (.str "b")) (aNil)))) (aCons (eC (.int 0)) (aNil))))) (aCons (eTup (aCons (eC (.int 1)) (aCons (eTup (aCons (eC (.str "do")) (aCons (eC (.str "a")) (aNil)))) (aCons (eC (.int 0)) (aNil))))) (aNil)))))) (aNil))))) (aNil)))) (sSeq (sExt 0 (eLst (aCons (eTup (aCons (eTup (aNil)) (aCons (eLst (aNil)) (aNil)))) (aCons (eTup (aCons (eLst (aNil)) (aCons (eTup (aNil)) (aNil)))) (aCons (eLst (aCons (eTup (aNil)) (aCons (eTup (aNil)) (aNil)))) (aCons (eTup (aCons (eTup (aCons (eTup (aCons (eC (.str "a")) (aCons (eTup (aNil)) (aCons (eTup (aNil)) (aNil))))) (aNil))) (aCons (eTup (aNil)) (aNil)))) (aCons (eTup (aCons (eTup (aCons (eTup (aCons (eC (.str "b")) (aCons (eTup (aNil)) (aCons (eTup (aNil)) (aNil))))) (aCons (eTup (aCons (eC (.str "a")) (aCons (eTup (aNil)) (aCons (eTup (aNil)) (aNil))))) (aNil)))) (aCons (eTup (aNil)) (aNil)))) (aNil)))))))) (sSeq (sExt 0 (eLst (aCons (eTup (aCons (eTup (aCons (eTup (aCons (eC (.str "a")) (aCons (eTup (aNil)) (aCons (eTup (aNil)) (aNil))))) (aCons (eTup (aCons (eC (.str "a")) (aCons (eTup (aCons (eC (.int 0)) (aNil))) (aCons (eTup (aNil)) (aNil))))) (aNil)))) (aCons (eTup (aNil)) (aNil)))) (aCons (eTup (aCons (eTup (aNil)) (aCons (eTup (aCons (eTup (aCons (eC (.str "c")) (aCons (eC (.str "a")) (aCons (eC (.str "b")) (aCons (eC (.str "bag")) (aNil)))))) (aNil))) (aNil)))) (aCons (eTup (aCons (eTup (aCons (eTup (aNil)) (aCons (eTup (aNil)) (aNil)))) (aCons (eTup (aCons (eTup (aNil)) (aCons (eTup (aNil)) (aNil)))) (aNil)))) (aNil)))))) (sFrz 0 (sRet (eVar 0))))))))))))))))
def m__law_plain_tuples : List D → M D := runB 1 s__law_plain_tuples
theorem d__law_plain_tuples (F : Fn0 K mg "_law_plain_tuples" (topS 44) []) (B : Blt mg) : Own P w K mg base 1 "_law_plain_tuples" [] m__law_plain_tuples :=
  own_def F sc__law_plain_tuples fun fa cdv A outer s H G μ E hr => by
    have hu := hr.units
    have hu1 := Nat.lt_of_le_of_lt (Nat.add_le_add_left (by decide : 1 ≤ 65) _) (hv_of hr)
    have hv := hv_of hr
    exact (jss_cons (js_own (i := 0) sc__law_plain_tuples.nd rfl (Or.inl rfl) (jf_lst (ja_cons (je_tup (ja_cons je_str (ja_cons je_str ja_nil))) (ja_cons (je_tup (ja_cons je_str (ja_cons je_str ja_nil))) (ja_cons (je_tup (ja_cons je_str ja_nil)) (ja_cons (je_tup (ja_cons je_str (ja_cons je_str (ja_cons je_str ja_nil)))) (ja_cons (je_tup (ja_cons je_str (ja_cons je_str ja_nil))) (ja_cons (je_tup (ja_cons je_str (ja_cons je_str (ja_cons je_str ja_nil)))) ja_nil)))))))) (jss_cons (js_ext (i := 0) rfl (Or.inl rfl) (je_lst (ja_cons (je_tup (ja_cons je_str (ja_cons je_str (ja_cons je_str ja_nil)))) (ja_cons (je_tup (ja_cons je_str (ja_cons je_str (ja_cons je_str ja_nil)))) (ja_cons (je_tup (ja_cons je_str (ja_cons je_str (ja_cons je_str (ja_cons je_str ja_nil))))) (ja_cons (je_lst (ja_cons je_str (ja_cons je_str ja_nil))) (ja_cons (je_tup (ja_cons je_str (ja_cons je_str ja_nil))) ja_nil)))))) (hb := fun ho ha => pe_bm PySem.F.plainAttrs_list PySem.F.slot_list_extend PySem.F.type_list_extend mt_extend ho ha)) (jss_cons (js_ext (i := 0) rfl (Or.inl rfl) (je_lst (ja_cons (je_tup (ja_cons je_str (ja_cons je_str (ja_cons je_str ja_nil)))) (ja_cons (je_tup (ja_cons je_str (ja_cons je_str (ja_cons je_str ja_nil)))) (ja_cons (je_tup (ja_cons je_str (ja_cons je_str ja_nil))) (ja_cons (je_tup (ja_cons je_str (ja_cons je_str (ja_cons je_str ja_nil)))) (ja_cons (je_tup (ja_cons je_str (ja_cons je_str (ja_cons je_str ja_nil)))) ja_nil)))))) (hb := fun ho ha => pe_bm PySem.F.plainAttrs_list PySem.F.slot_list_extend PySem.F.type_list_extend mt_extend ho ha)) (jss_cons (js_ext (i := 0) rfl (Or.inl rfl) (je_lst (ja_cons (je_tup (ja_cons je_str (ja_cons je_int ja_nil))) (ja_cons (je_tup (ja_cons je_str (ja_cons je_bl ja_nil))) (ja_cons (je_tup (ja_cons je_str (ja_cons (je_neg je_int) ja_nil))) (ja_cons (je_tup (ja_cons je_str (ja_cons je_int ja_nil))) (ja_cons (je_tup (ja_cons je_int (ja_cons je_str ja_nil))) (ja_cons (je_lst (ja_cons je_str (ja_cons je_int ja_nil))) (ja_cons (je_tup (ja_cons je_str (ja_cons je_int (ja_cons je_int ja_nil)))) ja_nil)))))))) (hb := fun ho ha => pe_bm PySem.F.plainAttrs_list PySem.F.slot_list_extend PySem.F.type_list_extend mt_extend ho ha)) (jss_cons (js_ext (i := 0) rfl (Or.inl rfl) (je_lst (ja_cons (je_tup (ja_cons je_str (ja_cons (je_op op_pow o_pow (JE.jb je_int) (JE.jb je_int)) ja_nil))) (ja_cons (je_tup (ja_cons je_int (ja_cons (je_tup (ja_cons je_str (ja_cons je_str ja_nil))) (ja_cons je_int ja_nil)))) (ja_cons (je_tup (ja_cons je_bl (ja_cons (je_tup (ja_cons je_str (ja_cons je_str ja_nil))) (ja_cons je_int ja_nil)))) (ja_cons (je_tup (ja_cons je_int (ja_cons (je_tup (ja_cons je_str (ja_cons je_str ja_nil))) (ja_cons (je_neg je_int) ja_nil)))) ja_nil))))) (hb := fun ho ha => pe_bm PySem.F.plainAttrs_list PySem.F.slot_list_extend PySem.F.type_list_extend mt_extend ho ha)) (jss_cons (js_ext (i := 0) rfl (Or.inl rfl) (je_lst (ja_cons (je_tup (ja_cons je_int (ja_cons (je_lst (ja_cons je_str (ja_cons je_str ja_nil))) (ja_cons je_int ja_nil)))) (ja_cons (je_tup (ja_cons je_int (ja_cons (je_tup (ja_cons je_str (ja_cons je_str ja_nil))) ja_nil))) (ja_cons (je_tup (ja_cons je_int (ja_cons (je_tup (ja_cons je_str (ja_cons je_str ja_nil))) (ja_cons je_bl ja_nil)))) (ja_cons (je_tup (ja_cons je_int (ja_cons (je_tup (ja_cons je_str (ja_cons je_str ja_nil))) (ja_cons (je_op op_pow o_pow (JE.jb je_int) (JE.jb je_int)) ja_nil)))) ja_nil))))) (hb := fun ho ha => pe_bm PySem.F.plainAttrs_list PySem.F.slot_list_extend PySem.F.type_list_extend mt_extend ho ha)) (jss_cons (js_ext (i := 0) rfl (Or.inl rfl) (je_lst (ja_cons (je_tup (ja_cons je_str (ja_cons je_str (ja_cons je_str (ja_cons je_str ja_nil))))) (ja_cons (je_tup (ja_cons je_str (ja_cons je_str (ja_cons je_str (ja_cons je_str ja_nil))))) (ja_cons (je_tup (ja_cons je_str (ja_cons je_str (ja_cons je_str (ja_cons je_str ja_nil))))) (ja_cons (je_tup (ja_cons je_str (ja_cons je_str (ja_cons je_str (ja_cons je_str ja_nil))))) ja_nil))))) (hb := fun ho ha => pe_bm PySem.F.plainAttrs_list PySem.F.slot_list_extend PySem.F.type_list_extend mt_extend ho ha)) (jss_cons (js_ext (i := 0) rfl (Or.inl rfl) (je_lst (ja_cons (je_tup (ja_cons je_str (ja_cons je_str (ja_cons je_str ja_nil)))) (ja_cons (je_tup (ja_cons je_str (ja_cons je_str (ja_cons je_str (ja_cons je_str (ja_cons je_str ja_nil)))))) (ja_cons (je_lst (ja_cons je_str (ja_cons je_str (ja_cons je_str (ja_cons je_str ja_nil))))) (ja_cons (je_tup (ja_cons je_str (ja_cons je_str (ja_cons je_int (ja_cons je_str ja_nil))))) ja_nil))))) (hb := fun ho ha => pe_bm PySem.F.plainAttrs_list PySem.F.slot_list_extend PySem.F.type_list_extend mt_extend ho ha)) (jss_cons (js_ext (i := 0) rfl (Or.inl rfl) (je_lst (ja_cons (je_tup (ja_cons je_str (ja_cons (je_tup ja_nil) (ja_cons (je_tup ja_nil) ja_nil)))) (ja_cons (je_tup (ja_cons je_str (ja_cons (je_tup (ja_cons je_int (ja_cons je_int (ja_cons je_int ja_nil)))) (ja_cons (je_tup ja_nil) ja_nil)))) (ja_cons (je_tup (ja_cons je_str (ja_cons (je_tup (ja_cons je_int (ja_cons je_int ja_nil))) (ja_cons (je_tup ja_nil) ja_nil)))) (ja_cons (je_tup (ja_cons je_str (ja_cons (je_tup (ja_cons je_int (ja_cons je_int ja_nil))) (ja_cons (je_tup ja_nil) ja_nil)))) (ja_cons (je_tup (ja_cons je_str (ja_cons (je_lst (ja_cons je_int ja_nil)) (ja_cons (je_tup ja_nil) ja_nil)))) ja_nil)))))) (hb := fun ho ha => pe_bm PySem.F.plainAttrs_list PySem.F.slot_list_extend PySem.F.type_list_extend mt_extend ho ha)) (jss_cons (js_app (i := 0) rfl (Or.inl rfl) (je_tup (ja_cons je_str (ja_cons (je_tup ja_nil) (ja_cons (je_lst ja_nil) ja_nil)))) (hb := fun ho ha => pe_bm PySem.F.plainAttrs_list PySem.F.slot_list_append PySem.F.type_list_append mt_append ho ha)) (jss_cons (js_ext (i := 0) rfl (Or.inl rfl) (je_lst (ja_cons (je_tup (ja_cons je_str (ja_cons (je_tup (ja_cons je_bl ja_nil)) (ja_cons (je_tup ja_nil) ja_nil)))) (ja_cons (je_tup (ja_cons je_str (ja_cons (je_tup (ja_cons je_int ja_nil)) (ja_cons (je_tup (ja_cons (je_tup (ja_cons je_int (ja_cons (je_tup (ja_cons je_str (ja_cons je_str ja_nil))) (ja_cons je_int ja_nil)))) (ja_cons (je_tup (ja_cons je_int (ja_cons (je_tup (ja_cons je_str (ja_cons je_str ja_nil))) (ja_cons je_int ja_nil)))) ja_nil))) ja_nil)))) (ja_cons (je_tup (ja_cons je_str (ja_cons (je_tup (ja_cons je_int (ja_cons je_int ja_nil))) (ja_cons (je_tup (ja_cons je_int ja_nil)) ja_nil)))) ja_nil)))) (hb := fun ho ha => pe_bm PySem.F.plainAttrs_list PySem.F.slot_list_extend PySem.F.type_list_extend mt_extend ho ha)) (jss_cons (js_ext (i := 0) rfl (Or.inl rfl) (je_lst (ja_cons (je_tup (ja_cons je_str (ja_cons (je_tup ja_nil) (ja_cons (je_tup (ja_cons (je_tup (ja_cons je_int (ja_cons (je_tup (ja_cons je_str (ja_cons je_str ja_nil))) (ja_cons je_int ja_nil)))) (ja_cons (je_tup (ja_cons je_int (ja_cons (je_tup (ja_cons je_str (ja_cons je_str ja_nil))) (ja_cons je_int ja_nil)))) (ja_cons (je_tup (ja_cons je_int (ja_cons (je_tup (ja_cons je_str (ja_cons je_str ja_nil))) (ja_cons je_int ja_nil)))) (ja_cons (je_tup (ja_cons je_int (ja_cons (je_tup (ja_cons je_str (ja_cons je_str ja_nil))) (ja_cons je_int ja_nil)))) ja_nil))))) ja_nil)))) ja_nil)) (hb := fun ho ha => pe_bm PySem.F.plainAttrs_list PySem.F.slot_list_extend PySem.F.type_list_extend mt_extend ho ha)) (jss_cons (js_ext (i := 0) rfl (Or.inl rfl) (je_lst (ja_cons (je_tup (ja_cons (je_tup ja_nil) (ja_cons (je_lst ja_nil) ja_nil))) (ja_cons (je_tup (ja_cons (je_lst ja_nil) (ja_cons (je_tup ja_nil) ja_nil))) (ja_cons (je_lst (ja_cons (je_tup ja_nil) (ja_cons (je_tup ja_nil) ja_nil))) (ja_cons (je_tup (ja_cons (je_tup (ja_cons (je_tup (ja_cons je_str (ja_cons (je_tup ja_nil) (ja_cons (je_tup ja_nil) ja_nil)))) ja_nil)) (ja_cons (je_tup ja_nil) ja_nil))) (ja_cons (je_tup (ja_cons (je_tup (ja_cons (je_tup (ja_cons je_str (ja_cons (je_tup ja_nil) (ja_cons (je_tup ja_nil) ja_nil)))) (ja_cons (je_tup (ja_cons je_str (ja_cons (je_tup ja_nil) (ja_cons (je_tup ja_nil) ja_nil)))) ja_nil))) (ja_cons (je_tup ja_nil) ja_nil))) ja_nil)))))) (hb := fun ho ha => pe_bm PySem.F.plainAttrs_list PySem.F.slot_list_extend PySem.F.type_list_extend mt_extend ho ha)) (jss_cons (js_ext (i := 0) rfl (Or.inl rfl) (je_lst (ja_cons (je_tup (ja_cons (je_tup (ja_cons (je_tup (ja_cons je_str (ja_cons (je_tup ja_nil) (ja_cons (je_tup ja_nil) ja_nil)))) (ja_cons (je_tup (ja_cons je_str (ja_cons (je_tup (ja_cons je_int ja_nil)) (ja_cons (je_tup ja_nil) ja_nil)))) ja_nil))) (ja_cons (je_tup ja_nil) ja_nil))) (ja_cons (je_tup (ja_cons (je_tup ja_nil) (ja_cons (je_tup (ja_cons (je_tup (ja_cons je_str (ja_cons je_str (ja_cons je_str (ja_cons je_str ja_nil))))) ja_nil)) ja_nil))) (ja_cons (je_tup (ja_cons (je_tup (ja_cons (je_tup ja_nil) (ja_cons (je_tup ja_nil) ja_nil))) (ja_cons (je_tup (ja_cons (je_tup ja_nil) (ja_cons (je_tup ja_nil) ja_nil))) ja_nil))) ja_nil)))) (hb := fun ho ha => pe_bm PySem.F.plainAttrs_list PySem.F.slot_list_extend PySem.F.type_list_extend mt_extend ho ha)) (jss_one (js_frz (i := 0) (js_ret (jv 0))))))))))))))))))
theorem sc__law_parts : FnScope ["_law_feed_here", "_law_program", "_law_parts_here", "_law_channel", "_law_party_here", "_law_arrow"] ["_law_feed_here", "_law_program"] (defScope (topS 46)) := ⟨rfl, rfl, rfl, by decide +kernel, rfl, by decide +kernel, by decide +kernel⟩
def s__law_parts : En → M (Fl × En) := sSeq (sOwn 2 (fLst (aCons (eVar 1) (aCons (e2 ixM (eVar 1) (eC (.int 0))) (aCons (e2 ixM (eVar 1) (eC (.int 1))) (aNil)))))) (sSeq (sFor (iSeq (eSl (e2 ixM (eVar 1) (eC (.int 1))) oNo (oSo (eC (.int 2))))) (.nm 3) (sExt 2 (eLst (aCons (eVar 3) (aCons (e2 ixM (eVar 3) (eC (.int 0))) (aCons (e2 ixM (eVar 3) (eC (.int 3))) (aNil))))))) (sSeq (sIf (tBl (e2 neM (e2 ixM (eVar 1) (eC (.int 0))) (eTup (aNil)))) (sSeq (sSet 4 (eCall 2 PG.m_law_pick (aCons (eVar 0) (aCons (e2 ixM (eVar 1) (eC (.int 0))) (aNil))))) (sSeq (sExt 2 (eLst (aCons (eVar 4) (aCons (e2 ixM (eVar 4) (eC (.int 1))) (aCons (e2 ixM (eVar 4) (eC (.int 2))) (aCons (eTup (aCons (e2 ixM (eVar 4) (eC (.int 0))) (aCons (eCall 2 PG.m_law_draw (aCons (eVar 0) (aCons (eC (.int 9)) (aNil)))) (aNil)))) (aNil))))))) (sFor (iSeq (eSl (e2 ixM (eVar 4) (eC (.int 2))) oNo (oSo (eC (.int 2))))) (.nm 5) (sExt 2 (eLst (aCons (eVar 5) (aCons (e2 ixM (eVar 5) (eC (.int 1))) (aCons (e2 ixM (eVar 5) (eC (.int 2))) (aNil))))))))) (sNil)) (sFrz 2 (sRet (eVar 2)))))
def m__law_parts : List D → M D := runB 6 s__law_parts
theorem d__law_parts (F : Fn0 K mg "_law_parts" (topS 46) ["_law_feed_here", "_law_program"]) (B : Blt mg) (o__law_pick : Own P w K mg base 2 "_law_pick" ["_law_feed_here", "_law_things"] PG.m_law_pick) (o__law_draw : Own P w K mg base 1 "_law_draw" ["_law_feed_here", "_law_many"] PG.m_law_draw) : Own P w K mg base 3 "_law_parts" ["_law_feed_here", "_law_program"] m__law_parts :=
  own_def F sc__law_parts fun fa cdv A outer s H G μ E hr => by
    have hu := hr.units
    have hu1 := Nat.lt_of_le_of_lt (Nat.add_le_add_left (by decide : 1 ≤ 65) _) (hv_of hr)
    have hv := hv_of hr
    exact (jss_cons (js_own (i := 2) sc__law_parts.nd rfl (Or.inl rfl) (jf_lst (ja_cons (jv 1) (ja_cons (je_ix ix_seq o_ix (JE.jb (jv 1)) (JE.jb je_int) (fun _ _ => rfl)) (ja_cons (je_ix ix_seq o_ix (JE.jb (jv 1)) (JE.jb je_int) (fun _ _ => rfl)) ja_nil))))) (jss_cons (js_for (passes_of rfl) rfl (ji_seq (je_slice (JE.jb (je_ix ix_seq o_ix (JE.jb (jv 1)) (JE.jb je_int) (fun _ _ => rfl))) jo_no (jo_so je_int))) (pg_name (i := 3) sc__law_parts.nd rfl (Or.inl rfl)) (fun _ _ => (jss_one (js_ext (i := 2) rfl (Or.inl rfl) (je_lst (ja_cons (jv 3) (ja_cons (je_ix ix_seq o_ix (JE.jb (jv 3)) (JE.jb je_int) (fun _ _ => rfl)) (ja_cons (je_ix ix_seq o_ix (JE.jb (jv 3)) (JE.jb je_int) (fun _ _ => rfl)) ja_nil)))) (hb := fun ho ha => pe_bm PySem.F.plainAttrs_list PySem.F.slot_list_extend PySem.F.type_list_extend mt_extend ho ha))))) (jss_cons (js_if (jt_cmp (op_neD hu) o_ne (JE.jb (je_ix ix_seq o_ix (JE.jb (jv 1)) (JE.jb je_int) (fun _ _ => rfl))) (JE.jb (je_tup ja_nil)) (nomark _)) (jss_cons (js_set (i := 4) sc__law_parts.nd rfl (Or.inl rfl) (jcall o__law_pick (hr.mono (by decide)) (pd rfl rfl rfl rfl) (ja_cons (jv 0) (ja_cons (je_ix ix_seq o_ix (JE.jb (jv 1)) (JE.jb je_int) (fun _ _ => rfl)) ja_nil)))) (jss_cons (js_ext (i := 2) rfl (Or.inl rfl) (je_lst (ja_cons (jv 4) (ja_cons (je_ix ix_seq o_ix (JE.jb (jv 4)) (JE.jb je_int) (fun _ _ => rfl)) (ja_cons (je_ix ix_seq o_ix (JE.jb (jv 4)) (JE.jb je_int) (fun _ _ => rfl)) (ja_cons (je_tup (ja_cons (je_ix ix_seq o_ix (JE.jb (jv 4)) (JE.jb je_int) (fun _ _ => rfl)) (ja_cons (jcall o__law_draw (hr.mono (by decide)) (pd rfl rfl rfl rfl) (ja_cons (jv 0) (ja_cons je_int ja_nil))) ja_nil))) ja_nil))))) (hb := fun ho ha => pe_bm PySem.F.plainAttrs_list PySem.F.slot_list_extend PySem.F.type_list_extend mt_extend ho ha)) (jss_one (js_for (passes_of rfl) rfl (ji_seq (je_slice (JE.jb (je_ix ix_seq o_ix (JE.jb (jv 4)) (JE.jb je_int) (fun _ _ => rfl))) jo_no (jo_so je_int))) (pg_name (i := 5) sc__law_parts.nd rfl (Or.inl rfl)) (fun _ _ => (jss_one (js_ext (i := 2) rfl (Or.inl rfl) (je_lst (ja_cons (jv 5) (ja_cons (je_ix ix_seq o_ix (JE.jb (jv 5)) (JE.jb je_int) (fun _ _ => rfl)) (ja_cons (je_ix ix_seq o_ix (JE.jb (jv 5)) (JE.jb je_int) (fun _ _ => rfl)) ja_nil)))) (hb := fun ho ha => pe_bm PySem.F.plainAttrs_list PySem.F.slot_list_extend PySem.F.type_list_extend mt_extend ho ha)))))))) jss_nil) (jss_one (js_frz (i := 2) (js_ret (jv 2)))))))
theorem sc_is_doing : FnScope ["thing"] ["thing"] (defScope (topS 7)) := ⟨rfl, rfl, rfl, by decide +kernel, rfl, by decide +kernel, by decide +kernel⟩
def s_is_doing : En → M (Fl × En) := sSeq (sIf (tBl (eCall 2 m_is_row (aCons (eVar 0) (aCons (eC (.int 2)) (aNil))))) (sRet (vAnd (e2 eqM (e2 ixM (eVar 0) (eC (.int 0))) (eC (.str "do"))) (eCall 1 m_is_name (aCons (e2 ixM (eVar 0) (eC (.int 1))) (aNil))))) (sNil)) (sSeq (sIf (tBl (eCall 2 m_is_row (aCons (eVar 0) (aCons (eC (.int 3)) (aNil))))) (sRet (vAnd (e2 inM (e2 ixM (eVar 0) (eC (.int 0))) (eTup (aCons (eC (.str "put")) (aCons (eC (.str "take")) (aNil))))) (vAnd (eCall 1 m_is_name (aCons (e2 ixM (eVar 0) (eC (.int 1))) (aNil))) (eCall 1 m_is_name (aCons (e2 ixM (eVar 0) (eC (.int 2))) (aNil)))))) (sNil)) (sRet (eC (.bl false))))
def m_is_doing : List D → M D := runB 1 s_is_doing
theorem d_is_doing (F : Fn0 K mg "is_doing" (topS 7) ["thing"]) (B : Blt mg) (o_is_row : Own P w K mg base 1 "is_row" ["thing", "size"] m_is_row) (o_is_name : Own P w K mg base 1 "is_name" ["thing"] m_is_name) : Own P w K mg base 2 "is_doing" ["thing"] m_is_doing :=
  own_def F sc_is_doing fun fa cdv A outer s H G μ E hr => by
    have hu := hr.units
    have hu1 := Nat.lt_of_le_of_lt (Nat.add_le_add_left (by decide : 1 ≤ 65) _) (hv_of hr)
    have hv := hv_of hr
    exact (jss_cons (js_if (jt_val (jcall o_is_row (hr.mono (by decide)) (pd rfl rfl rfl rfl) (ja_cons (jv 0) (ja_cons je_int ja_nil)))) (jss_one (js_ret (je_and (je_cmp (op_eqD hu) o_eq (JE.jb (je_ix ix_seq o_ix (JE.jb (jv 0)) (JE.jb je_int) (fun _ _ => rfl))) (JE.jb je_str) (nomark _)) (je_one (jcall o_is_name (hr.mono (by decide)) (pd rfl rfl rfl rfl) (ja_cons (je_ix ix_seq o_ix (JE.jb (jv 0)) (JE.jb je_int) (fun _ _ => rfl)) ja_nil)))))) jss_nil) (jss_cons (js_if (jt_val (jcall o_is_row (hr.mono (by decide)) (pd rfl rfl rfl rfl) (ja_cons (jv 0) (ja_cons je_int ja_nil)))) (jss_one (js_ret (je_and (je_cmp (op_inB hv) o_in (JE.jb (je_ix ix_seq o_ix (JE.jb (jv 0)) (JE.jb je_int) (fun _ _ => rfl))) (JE.jb (je_tup (ja_cons je_str (ja_cons je_str ja_nil)))) (by rfl)) (je_and (jcall o_is_name (hr.mono (by decide)) (pd rfl rfl rfl rfl) (ja_cons (je_ix ix_seq o_ix (JE.jb (jv 0)) (JE.jb je_int) (fun _ _ => rfl)) ja_nil)) (je_one (jcall o_is_name (hr.mono (by decide)) (pd rfl rfl rfl rfl) (ja_cons (je_ix ix_seq o_ix (JE.jb (jv 0)) (JE.jb je_int) (fun _ _ => rfl)) ja_nil))))))) jss_nil) (jss_one (js_ret je_bl))))
theorem sc_is_arrow : FnScope ["thing"] ["thing"] (defScope (topS 8)) := ⟨rfl, rfl, rfl, by decide +kernel, rfl, by decide +kernel, by decide +kernel⟩
def s_is_arrow : En → M (Fl × En) := sSeq (sIf (tNt (tBl (eCall 2 m_is_row (aCons (eVar 0) (aCons (eC (.int 3)) (aNil)))))) (sRet (eC (.bl false))) (sNil)) (sRet (vAnd (eCall 1 m_is_number (aCons (e2 ixM (eVar 0) (eC (.int 0))) (aNil))) (vAnd (eCall 1 m_is_doing (aCons (e2 ixM (eVar 0) (eC (.int 1))) (aNil))) (eCall 1 m_is_number (aCons (e2 ixM (eVar 0) (eC (.int 2))) (aNil))))))
def m_is_arrow : List D → M D := runB 1 s_is_arrow
theorem d_is_arrow (F : Fn0 K mg "is_arrow" (topS 8) ["thing"]) (B : Blt mg) (o_is_row : Own P w K mg base 1 "is_row" ["thing", "size"] m_is_row) (o_is_number : Own P w K mg base 2 "is_number" ["thing"] m_is_number) (o_is_doing : Own P w K mg base 2 "is_doing" ["thing"] m_is_doing) : Own P w K mg base 3 "is_arrow" ["thing"] m_is_arrow :=
  own_def F sc_is_arrow fun fa cdv A outer s H G μ E hr => by
    have hu := hr.units
    have hu1 := Nat.lt_of_le_of_lt (Nat.add_le_add_left (by decide : 1 ≤ 65) _) (hv_of hr)
    have hv := hv_of hr
    exact (jss_cons (js_if (jt_not (jt_val (jcall o_is_row (hr.mono (by decide)) (pd rfl rfl rfl rfl) (ja_cons (jv 0) (ja_cons je_int ja_nil))))) (jss_one (js_ret je_bl)) jss_nil) (jss_one (js_ret (je_and (jcall o_is_number (hr.mono (by decide)) (pd rfl rfl rfl rfl) (ja_cons (je_ix ix_seq o_ix (JE.jb (jv 0)) (JE.jb je_int) (fun _ _ => rfl)) ja_nil)) (je_and (jcall o_is_doing (hr.mono (by decide)) (pd rfl rfl rfl rfl) (ja_cons (je_ix ix_seq o_ix (JE.jb (jv 0)) (JE.jb je_int) (fun _ _ => rfl)) ja_nil)) (je_one (jcall o_is_number (hr.mono (by decide)) (pd rfl rfl rfl rfl) (ja_cons (je_ix ix_seq o_ix (JE.jb (jv 0)) (JE.jb je_int) (fun _ _ => rfl)) ja_nil))))))))
theorem sc_is_channel : FnScope ["thing"] ["thing"] (defScope (topS 9)) := ⟨rfl, rfl, rfl, by decide +kernel, rfl, by decide +kernel, by decide +kernel⟩
def s_is_channel : En → M (Fl × En) := sRet (vAnd (eCall 1 m_is_channel_row (aCons (eVar 0) (aNil))) (e2 neM (e2 ixM (eVar 0) (eC (.int 1))) (e2 ixM (eVar 0) (eC (.int 2)))))
def m_is_channel : List D → M D := runB 1 s_is_channel
theorem d_is_channel (F : Fn0 K mg "is_channel" (topS 9) ["thing"]) (B : Blt mg) (o_is_channel_row : Own P w K mg base 2 "is_channel_row" ["thing"] m_is_channel_row) : Own P w K mg base 3 "is_channel" ["thing"] m_is_channel :=
  own_def F sc_is_channel fun fa cdv A outer s H G μ E hr => by
    have hu := hr.units
    have hu1 := Nat.lt_of_le_of_lt (Nat.add_le_add_left (by decide : 1 ≤ 65) _) (hv_of hr)
    have hv := hv_of hr
    exact (jss_one (js_ret (je_and (jcall o_is_channel_row (hr.mono (by decide)) (pd rfl rfl rfl rfl) (ja_cons (jv 0) ja_nil)) (je_one (je_cmp (op_neD hu) o_ne (JE.jb (je_ix ix_seq o_ix (JE.jb (jv 0)) (JE.jb je_int) (fun _ _ => rfl))) (JE.jb (je_ix ix_seq o_ix (JE.jb (jv 0)) (JE.jb je_int) (fun _ _ => rfl))) (nomark _))))))
theorem sc_is_event : FnScope ["thing"] ["thing"] (defScope (topS 12)) := ⟨rfl, rfl, rfl, by decide +kernel, rfl, by decide +kernel, by decide +kernel⟩
def s_is_event : En → M (Fl × En) := sRet (vAnd (eCall 2 m_is_row (aCons (eVar 0) (aCons (eC (.int 2)) (aNil)))) (vAnd (eCall 1 m_is_name (aCons (e2 ixM (eVar 0) (eC (.int 0))) (aNil))) (eCall 1 m_is_number (aCons (e2 ixM (eVar 0) (eC (.int 1))) (aNil)))))
def m_is_event : List D → M D := runB 1 s_is_event
theorem d_is_event (F : Fn0 K mg "is_event" (topS 12) ["thing"]) (B : Blt mg) (o_is_row : Own P w K mg base 1 "is_row" ["thing", "size"] m_is_row) (o_is_name : Own P w K mg base 1 "is_name" ["thing"] m_is_name) (o_is_number : Own P w K mg base 2 "is_number" ["thing"] m_is_number) : Own P w K mg base 3 "is_event" ["thing"] m_is_event :=
  own_def F sc_is_event fun fa cdv A outer s H G μ E hr => by
    have hu := hr.units
    have hu1 := Nat.lt_of_le_of_lt (Nat.add_le_add_left (by decide : 1 ≤ 65) _) (hv_of hr)
    have hv := hv_of hr
    exact (jss_one (js_ret (je_and (jcall o_is_row (hr.mono (by decide)) (pd rfl rfl rfl rfl) (ja_cons (jv 0) (ja_cons je_int ja_nil))) (je_and (jcall o_is_name (hr.mono (by decide)) (pd rfl rfl rfl rfl) (ja_cons (je_ix ix_seq o_ix (JE.jb (jv 0)) (JE.jb je_int) (fun _ _ => rfl)) ja_nil)) (je_one (jcall o_is_number (hr.mono (by decide)) (pd rfl rfl rfl rfl) (ja_cons (je_ix ix_seq o_ix (JE.jb (jv 0)) (JE.jb je_int) (fun _ _ => rfl)) ja_nil)))))))
theorem sc_is_number_set : FnScope ["thing", "number"] ["thing"] (defScope (topS 16)) := ⟨rfl, rfl, rfl, by decide +kernel, rfl, by decide +kernel, by decide +kernel⟩
def s_is_number_set : En → M (Fl × En) := sSeq (sIf (tOor (tNt (tBl (e1 (isiM "tuple") (eVar 0)))) (tNt (tBl (e1 allM (eL (eLc (iSeq (eVar 0)) (.nm 1) [1] (tTrue) (eCall 1 m_is_number (aCons (eVar 1) (aNil))))))))) (sRet (eC (.bl false))) (sNil)) (sRet (eCall 1 m_ascends (aCons (eVar 0) (aNil))))
def m_is_number_set : List D → M D := runB 2 s_is_number_set
theorem d_is_number_set (F : Fn0 K mg "is_number_set" (topS 16) ["thing"]) (B : Blt mg) (o_is_number : Own P w K mg base 2 "is_number" ["thing"] m_is_number) (o_ascends : Own P w K mg base 1 "ascends" ["row"] m_ascends) : Own P w K mg base 3 "is_number_set" ["thing"] m_is_number_set :=
  own_def F sc_is_number_set fun fa cdv A outer s H G μ E hr => by
    have hu := hr.units
    have hu1 := Nat.lt_of_le_of_lt (Nat.add_le_add_left (by decide : 1 ≤ 65) _) (hv_of hr)
    have hv := hv_of hr
    exact (jss_cons (js_if (JW.jt (jw_or (jt_not (jt_val (je_isi (by rfl) B.isinstance (by rfl) B.tuple (by decide +kernel) (jv 0)))) (jw_or1 (jt_not (jt_val (je_callB (cr_all rfl) c_all (by rfl) B.all (by decide +kernel) (JE.jb (JF.je (jf_lc (own := [("number", 1)]) rfl sc_is_number_set.nd (ji_seq (jv 0)) (blkOk_by (N := ["thing", "number"]) (sc := defScope (topS 16)) (by decide +kernel)) (by decide) (fun _ _ _ _ _ => (pg_name (i := 1) sc_is_number_set.nd rfl (Or.inl rfl))) (fun _ _ _ _ _ => jts_nil) (fun _ _ _ _ _ => (jcall o_is_number (hr.mono (by decide)) px (ja_cons (jv 1) ja_nil)))))))))))) (jss_one (js_ret je_bl)) jss_nil) (jss_one (js_ret (jcall o_ascends (hr.mono (by decide)) (pd rfl rfl rfl rfl) (ja_cons (jv 0) ja_nil)))))
theorem sc_is_party : FnScope ["thing", "arrows", "arrow"] ["thing"] (defScope (topS 10)) := ⟨rfl, rfl, rfl, by decide +kernel, rfl, by decide +kernel, by decide +kernel⟩
def s_is_party : En → M (Fl × En) := sSeq (sIf (tOor (tNt (tBl (eCall 2 m_is_row (aCons (eVar 0) (aCons (eC (.int 3)) (aNil)))))) (tOor (tNt (tBl (eCall 1 m_is_name (aCons (e2 ixM (eVar 0) (eC (.int 0))) (aNil))))) (tNt (tBl (eCall 1 m_is_number_set (aCons (e2 ixM (eVar 0) (eC (.int 1))) (aNil))))))) (sRet (eC (.bl false))) (sNil)) (sSeq (sSet 1 (e2 ixM (eVar 0) (eC (.int 2)))) (sSeq (sIf (tOor (tNt (tBl (e1 (isiM "tuple") (eVar 1)))) (tNt (tBl (e1 allM (eL (eLc (iSeq (eVar 1)) (.nm 2) [2] (tTrue) (eCall 1 m_is_arrow (aCons (eVar 2) (aNil))))))))) (sRet (eC (.bl false))) (sNil)) (sRet (e2 eqM (e1 lsetM (eVar 1)) (e1 lenM (eVar 1))))))
def m_is_party : List D → M D := runB 3 s_is_party
theorem d_is_party (F : Fn0 K mg "is_party" (topS 10) ["thing"]) (B : Blt mg) (o_is_row : Own P w K mg base 1 "is_row" ["thing", "size"] m_is_row) (o_is_name : Own P w K mg base 1 "is_name" ["thing"] m_is_name) (o_is_number_set : Own P w K mg base 3 "is_number_set" ["thing"] m_is_number_set) (o_is_arrow : Own P w K mg base 3 "is_arrow" ["thing"] m_is_arrow) : Own P w K mg base 4 "is_party" ["thing"] m_is_party :=
  own_def F sc_is_party fun fa cdv A outer s H G μ E hr => by
    have hu := hr.units
    have hu1 := Nat.lt_of_le_of_lt (Nat.add_le_add_left (by decide : 1 ≤ 65) _) (hv_of hr)
    have hv := hv_of hr
    exact (jss_cons (js_if (JW.jt (jw_or (jt_not (jt_val (jcall o_is_row (hr.mono (by decide)) (pd rfl rfl rfl rfl) (ja_cons (jv 0) (ja_cons je_int ja_nil))))) (jw_or (jt_not (jt_val (jcall o_is_name (hr.mono (by decide)) (pd rfl rfl rfl rfl) (ja_cons (je_ix ix_seq o_ix (JE.jb (jv 0)) (JE.jb je_int) (fun _ _ => rfl)) ja_nil)))) (jw_or1 (jt_not (jt_val (jcall o_is_number_set (hr.mono (by decide)) (pd rfl rfl rfl rfl) (ja_cons (je_ix ix_seq o_ix (JE.jb (jv 0)) (JE.jb je_int) (fun _ _ => rfl)) ja_nil)))))))) (jss_one (js_ret je_bl)) jss_nil) (jss_cons (js_set (i := 1) sc_is_party.nd rfl (Or.inl rfl) (je_ix ix_seq o_ix (JE.jb (jv 0)) (JE.jb je_int) (fun _ _ => rfl))) (jss_cons (js_if (JW.jt (jw_or (jt_not (jt_val (je_isi (by rfl) B.isinstance (by rfl) B.tuple (by decide +kernel) (jv 1)))) (jw_or1 (jt_not (jt_val (je_callB (cr_all rfl) c_all (by rfl) B.all (by decide +kernel) (JE.jb (JF.je (jf_lc (own := [("arrow", 2)]) rfl sc_is_party.nd (ji_seq (jv 1)) (blkOk_by (N := ["thing", "arrows", "arrow"]) (sc := defScope (topS 10)) (by decide +kernel)) (by decide) (fun _ _ _ _ _ => (pg_name (i := 2) sc_is_party.nd rfl (Or.inl rfl))) (fun _ _ _ _ _ => jts_nil) (fun _ _ _ _ _ => (jcall o_is_arrow (hr.mono (by decide)) px (ja_cons (jv 2) ja_nil)))))))))))) (jss_one (js_ret je_bl)) jss_nil) (jss_one (js_ret (je_cmp (op_eqD hu) o_eq (JE.jb (je_lenSetN rfl hv (by rfl) B.len (by rfl) B.set (jv 1))) (JE.jb (je_callB call_len c_len (by rfl) B.len (by decide +kernel) (JE.jb (jv 1)))) (nomark _)))))))
theorem sc_is_program : FnScope ["thing", "parties", "channels", "party", "channel", "names", "sides", "arrow"] ["thing"] (defScope (topS 11)) := ⟨rfl, rfl, rfl, by decide +kernel, rfl, by decide +kernel, by decide +kernel⟩
def s_is_program : En → M (Fl × En) := sSeq (sIf (tNt (tBl (eCall 1 m_is_pair_of_tuples (aCons (eVar 0) (aNil))))) (sRet (eC (.bl false))) (sNil)) (sSeq (sUn (.tp [1, 2]) (eVar 0)) (sSeq (sIf (tNt (tBl (e1 allM (eL (eLc (iSeq (eVar 1)) (.nm 3) [3] (tTrue) (eCall 1 m_is_party (aCons (eVar 3) (aNil)))))))) (sRet (eC (.bl false))) (sNil)) (sSeq (sIf (tNt (tBl (e1 allM (eL (eLc (iSeq (eVar 2)) (.nm 4) [4] (tTrue) (eCall 1 m_is_channel (aCons (eVar 4) (aNil)))))))) (sRet (eC (.bl false))) (sNil)) (sSeq (sSet 5 (eL (eLc (iSeq (eVar 1)) (.nm 3) [3] (tTrue) (e2 ixM (eVar 3) (eC (.int 0)))))) (sSeq (sIf (tOor (tNt (tBl (eCall 1 m_ascends (aCons (eVar 5) (aNil))))) (tNt (tBl (eCall 1 m_ascends (aCons (eL (eLc (iSeq (eVar 2)) (.nm 4) [4] (tTrue) (e2 ixM (eVar 4) (eC (.int 0))))) (aNil)))))) (sRet (eC (.bl false))) (sNil)) (sSeq (sIf (tNt (tBl (e1 allM (eL (eLc (iSeq (eVar 2)) (.nm 4) [4] (tTrue) (vAnd (e2 inM (e2 ixM (eVar 4) (eC (.int 1))) (eVar 5)) (e2 inM (e2 ixM (eVar 4) (eC (.int 2))) (eVar 5)))))))) (sRet (eC (.bl false))) (sNil)) (sSeq (sSet 6 (eCall 1 m_sides_of (aCons (eVar 2) (aNil)))) (sRet (e1 allM (eL (eLc2 (iSeq (eVar 1)) (.nm 3) [3, 7] (tTrue) (iSeq (e2 ixM (eVar 3) (eC (.int 2)))) (.nm 7) [7] (tTrue) (eCall 3 m_is_owner (aCons (eVar 6) (aCons (e2 ixM (eVar 3) (eC (.int 0))) (aCons (e2 ixM (eVar 7) (eC (.int 1))) (aNil))))))))))))))))
def m_is_program : List D → M D := runB 8 s_is_program
theorem d_is_program (F : Fn0 K mg "is_program" (topS 11) ["thing"]) (B : Blt mg) (o_is_pair_of_tuples : Own P w K mg base 2 "is_pair_of_tuples" ["thing"] m_is_pair_of_tuples) (o_is_party : Own P w K mg base 4 "is_party" ["thing"] m_is_party) (o_is_channel : Own P w K mg base 3 "is_channel" ["thing"] m_is_channel) (o_ascends : Own P w K mg base 1 "ascends" ["row"] m_ascends) (o_sides_of : Own P w K mg base 1 "sides_of" ["channels"] m_sides_of) (o_is_owner : Own P w K mg base 1 "is_owner" ["sides", "name", "doing"] m_is_owner) : Own P w K mg base 5 "is_program" ["thing"] m_is_program :=
  own_def F sc_is_program fun fa cdv A outer s H G μ E hr => by
    have hu := hr.units
    have hu1 := Nat.lt_of_le_of_lt (Nat.add_le_add_left (by decide : 1 ≤ 65) _) (hv_of hr)
    have hv := hv_of hr
    exact (jss_cons (js_if (jt_not (jt_val (jcall o_is_pair_of_tuples (hr.mono (by decide)) (pd rfl rfl rfl rfl) (ja_cons (jv 0) ja_nil)))) (jss_one (js_ret je_bl)) jss_nil) (jss_cons (js_un (pt := (.tp [1, 2])) (jv 0) (pg_tup rfl (pgs_cons (pg_name (i := 1) sc_is_program.nd rfl (Or.inl rfl)) (pgs_cons (pg_name (i := 2) sc_is_program.nd rfl (Or.inl rfl)) pgs_nil)))) (jss_cons (js_if (jt_not (jt_val (je_callB (cr_all rfl) c_all (by rfl) B.all (by decide +kernel) (JE.jb (JF.je (jf_lc (own := [("party", 3)]) rfl sc_is_program.nd (ji_seq (jv 1)) (blkOk_by (N := ["thing", "parties", "channels", "party", "channel", "names", "sides", "arrow"]) (sc := defScope (topS 11)) (by decide +kernel)) (by decide) (fun _ _ _ _ _ => (pg_name (i := 3) sc_is_program.nd rfl (Or.inl rfl))) (fun _ _ _ _ _ => jts_nil) (fun _ _ _ _ _ => (jcall o_is_party (hr.mono (by decide)) px (ja_cons (jv 3) ja_nil))))))))) (jss_one (js_ret je_bl)) jss_nil) (jss_cons (js_if (jt_not (jt_val (je_callB (cr_all rfl) c_all (by rfl) B.all (by decide +kernel) (JE.jb (JF.je (jf_lc (own := [("channel", 4)]) rfl sc_is_program.nd (ji_seq (jv 2)) (blkOk_by (N := ["thing", "parties", "channels", "party", "channel", "names", "sides", "arrow"]) (sc := defScope (topS 11)) (by decide +kernel)) (by decide) (fun _ _ _ _ _ => (pg_name (i := 4) sc_is_program.nd rfl (Or.inl rfl))) (fun _ _ _ _ _ => jts_nil) (fun _ _ _ _ _ => (jcall o_is_channel (hr.mono (by decide)) px (ja_cons (jv 4) ja_nil))))))))) (jss_one (js_ret je_bl)) jss_nil) (jss_cons (js_set (i := 5) sc_is_program.nd rfl (Or.inr rfl) (JF.je (jf_lc (own := [("party", 3)]) rfl sc_is_program.nd (ji_seq (jv 1)) (blkOk_by (N := ["thing", "parties", "channels", "party", "channel", "names", "sides", "arrow"]) (sc := defScope (topS 11)) (by decide +kernel)) (by decide) (fun _ _ _ _ _ => (pg_name (i := 3) sc_is_program.nd rfl (Or.inl rfl))) (fun _ _ _ _ _ => jts_nil) (fun _ _ _ _ _ => (je_ix ix_seq o_ix (JE.jb (jv 3)) (JE.jb je_int) (fun _ _ => rfl)))))) (jss_cons (js_if (JW.jt (jw_or (jt_not (jt_val (jcall o_ascends (hr.mono (by decide)) (pd rfl rfl rfl rfl) (ja_cons (jv 5) ja_nil)))) (jw_or1 (jt_not (jt_val (jcall o_ascends (hr.mono (by decide)) (pd rfl rfl rfl rfl) (ja_cons (JF.je (jf_lc (own := [("channel", 4)]) rfl sc_is_program.nd (ji_seq (jv 2)) (blkOk_by (N := ["thing", "parties", "channels", "party", "channel", "names", "sides", "arrow"]) (sc := defScope (topS 11)) (by decide +kernel)) (by decide) (fun _ _ _ _ _ => (pg_name (i := 4) sc_is_program.nd rfl (Or.inl rfl))) (fun _ _ _ _ _ => jts_nil) (fun _ _ _ _ _ => (je_ix ix_seq o_ix (JE.jb (jv 4)) (JE.jb je_int) (fun _ _ => rfl))))) ja_nil))))))) (jss_one (js_ret je_bl)) jss_nil) (jss_cons (js_if (jt_not (jt_val (je_callB (cr_all rfl) c_all (by rfl) B.all (by decide +kernel) (JE.jb (JF.je (jf_lc (own := [("channel", 4)]) rfl sc_is_program.nd (ji_seq (jv 2)) (blkOk_by (N := ["thing", "parties", "channels", "party", "channel", "names", "sides", "arrow"]) (sc := defScope (topS 11)) (by decide +kernel)) (by decide) (fun _ _ _ _ _ => (pg_name (i := 4) sc_is_program.nd rfl (Or.inl rfl))) (fun _ _ _ _ _ => jts_nil) (fun _ _ _ _ _ => (je_and (je_cmp (op_inB hv) o_in (JE.jb (je_ix ix_seq o_ix (JE.jb (jv 4)) (JE.jb je_int) (fun _ _ => rfl))) (JE.jb (jv 5)) (by rfl)) (je_one (je_cmp (op_inB hv) o_in (JE.jb (je_ix ix_seq o_ix (JE.jb (jv 4)) (JE.jb je_int) (fun _ _ => rfl))) (JE.jb (jv 5)) (by rfl))))))))))) (jss_one (js_ret je_bl)) jss_nil) (jss_cons (js_set (i := 6) sc_is_program.nd rfl (Or.inr rfl) (jcall o_sides_of (hr.mono (by decide)) (pd rfl rfl rfl rfl) (ja_cons (jv 2) ja_nil))) (jss_one (js_ret (je_callB (cr_all rfl) c_all (by rfl) B.all (by decide +kernel) (JE.jb (JF.je (jf_lc2 (own := [("party", 3), ("arrow", 7)]) rfl sc_is_program.nd (ji_seq (jv 1)) (blkOk_by (N := ["thing", "parties", "channels", "party", "channel", "names", "sides", "arrow"]) (sc := defScope (topS 11)) (by decide +kernel)) (by decide) (by decide) (by decide) (fun _ _ _ _ _ => (pg_name (i := 3) sc_is_program.nd rfl (Or.inl rfl))) (fun _ _ _ _ _ => jts_nil) (fun _ _ _ _ _ => (ji_seq (je_ix ix_seq o_ix (JE.jb (jv 3)) (JE.jb je_int) (fun _ _ => rfl)))) (fun _ _ _ _ _ => (pg_name (i := 7) sc_is_program.nd rfl (Or.inl rfl))) (fun _ _ _ _ _ => jts_nil) (fun _ _ _ _ _ => (jcall o_is_owner (hr.mono (by decide)) px (ja_cons (jv 6) (ja_cons (je_ix ix_seq o_ix (JE.jb (jv 3)) (JE.jb je_int) (fun _ _ => rfl)) (ja_cons (je_ix ix_seq o_ix (JE.jb (jv 7)) (JE.jb je_int) (fun _ _ => rfl)) ja_nil)))))))))))))))))))
theorem sc__law_kinds_right : FnScope ["_law_thing", "_law_due", "_law_told", "_law_k"] ["_law_thing"] (defScope (topS 42)) := ⟨rfl, rfl, rfl, by decide +kernel, rfl, by decide +kernel, by decide +kernel⟩
def s__law_kinds_right : En → M (Fl × En) := sSeq (sOwn 1 (fLst (aCons (vAnd (e1 (isiM "int") (eVar 0)) (vNot (e1 (isiM "bool") (eVar 0)))) (aCons (eCall 1 m__law_is_number (aCons (eVar 0) (aNil))) (aCons (eCall 1 m__law_is_name (aCons (eVar 0) (aNil))) (aNil)))))) (sSeq (sExt 1 (eLst (aCons (eCall 1 m__law_is_doing (aCons (eVar 0) (aNil))) (aCons (eCall 1 m__law_is_arrow (aCons (eVar 0) (aNil))) (aCons (eCall 1 m__law_is_channel (aCons (eVar 0) (aNil))) (aCons (eCall 1 m__law_is_party (aCons (eVar 0) (aNil))) (aNil))))))) (sSeq (sApp 1 (eCall 1 m__law_is_program (aCons (eVar 0) (aNil)))) (sSeq (sApp 1 (vAnd (eCall 2 m__law_is_sized (aCons (eVar 0) (aCons (eC (.int 2)) (aNil)))) (vAnd (eCall 1 m__law_is_name (aCons (e2 ixM (eVar 0) (eC (.int 0))) (aNil))) (eCall 1 m__law_is_number (aCons (e2 ixM (eVar 0) (eC (.int 1))) (aNil)))))) (sSeq (sOwn 2 (fLst (aCons (eCall 1 m_is_integer (aCons (eVar 0) (aNil))) (aCons (eCall 1 m_is_number (aCons (eVar 0) (aNil))) (aCons (eCall 1 m_is_name (aCons (eVar 0) (aNil))) (aCons (eCall 1 m_is_doing (aCons (eVar 0) (aNil))) (aCons (eCall 1 m_is_arrow (aCons (eVar 0) (aNil))) (aNil)))))))) (sSeq (sExt 2 (eLst (aCons (eCall 1 m_is_channel (aCons (eVar 0) (aNil))) (aCons (eCall 1 m_is_party (aCons (eVar 0) (aNil))) (aCons (eCall 1 m_is_program (aCons (eVar 0) (aNil))) (aCons (eCall 1 m_is_event (aCons (eVar 0) (aNil))) (aNil))))))) (sRet (e2 eqM (eL (eLc (iRange1 (aCons (eC (.int 9)) (aNil))) (.nm 3) [3] (tOor (tNt (tBl (e1 (isiM "bool") (e2 ixM (eLook 2) (eVar 3))))) (tBl (e2 neM (e2 ixM (eLook 2) (eVar 3)) (e2 ixM (eLook 1) (eVar 3))))) (eVar 3))) (eLst (aNil)))))))))
def m__law_kinds_right : List D → M D := runB 4 s__law_kinds_right
theorem d__law_kinds_right (F : Fn0 K mg "_law_kinds_right" (topS 42) ["_law_thing"]) (B : Blt mg) (o__law_is_number : Own P w K mg base 1 "_law_is_number" ["_law_thing"] m__law_is_number) (o__law_is_name : Own P w K mg base 1 "_law_is_name" ["_law_thing"] m__law_is_name) (o__law_is_doing : Own P w K mg base 2 "_law_is_doing" ["_law_thing"] m__law_is_doing) (o__law_is_arrow : Own P w K mg base 3 "_law_is_arrow" ["_law_thing"] m__law_is_arrow) (o__law_is_channel : Own P w K mg base 2 "_law_is_channel" ["_law_thing"] m__law_is_channel) (o__law_is_party : Own P w K mg base 4 "_law_is_party" ["_law_thing"] m__law_is_party) (o__law_is_program : Own P w K mg base 5 "_law_is_program" ["_law_thing"] m__law_is_program) (o__law_is_sized : Own P w K mg base 1 "_law_is_sized" ["_law_thing", "_law_size"] m__law_is_sized) (o_is_integer : Own P w K mg base 1 "is_integer" ["thing"] m_is_integer) (o_is_number : Own P w K mg base 2 "is_number" ["thing"] m_is_number) (o_is_name : Own P w K mg base 1 "is_name" ["thing"] m_is_name) (o_is_doing : Own P w K mg base 2 "is_doing" ["thing"] m_is_doing) (o_is_arrow : Own P w K mg base 3 "is_arrow" ["thing"] m_is_arrow) (o_is_channel : Own P w K mg base 3 "is_channel" ["thing"] m_is_channel) (o_is_party : Own P w K mg base 4 "is_party" ["thing"] m_is_party) (o_is_program : Own P w K mg base 5 "is_program" ["thing"] m_is_program) (o_is_event : Own P w K mg base 3 "is_event" ["thing"] m_is_event) : Own P w K mg base 6 "_law_kinds_right" ["_law_thing"] m__law_kinds_right :=
  own_def F sc__law_kinds_right fun fa cdv A outer s H G μ E hr => by
    have hu := hr.units
    have hu1 := Nat.lt_of_le_of_lt (Nat.add_le_add_left (by decide : 1 ≤ 65) _) (hv_of hr)
    have hv := hv_of hr
    exact (jss_cons (js_own (i := 1) sc__law_kinds_right.nd rfl (Or.inr rfl) (jf_lst (ja_cons (je_and (je_isi (by rfl) B.isinstance (by rfl) B.int (by decide +kernel) (jv 0)) (je_one (je_not (je_isi (by rfl) B.isinstance (by rfl) B.bool (by decide +kernel) (jv 0))))) (ja_cons (jcall o__law_is_number (hr.mono (by decide)) (pd rfl rfl rfl rfl) (ja_cons (jv 0) ja_nil)) (ja_cons (jcall o__law_is_name (hr.mono (by decide)) (pd rfl rfl rfl rfl) (ja_cons (jv 0) ja_nil)) ja_nil))))) (jss_cons (js_ext (i := 1) rfl (Or.inr (Or.inl rfl)) (je_lst (ja_cons (jcall o__law_is_doing (hr.mono (by decide)) (pd rfl rfl rfl rfl) (ja_cons (jv 0) ja_nil)) (ja_cons (jcall o__law_is_arrow (hr.mono (by decide)) (pd rfl rfl rfl rfl) (ja_cons (jv 0) ja_nil)) (ja_cons (jcall o__law_is_channel (hr.mono (by decide)) (pd rfl rfl rfl rfl) (ja_cons (jv 0) ja_nil)) (ja_cons (jcall o__law_is_party (hr.mono (by decide)) (pd rfl rfl rfl rfl) (ja_cons (jv 0) ja_nil)) ja_nil))))) (hb := fun ho ha => pe_bm PySem.F.plainAttrs_list PySem.F.slot_list_extend PySem.F.type_list_extend mt_extend ho ha)) (jss_cons (js_app (i := 1) rfl (Or.inr (Or.inl rfl)) (jcall o__law_is_program (hr.mono (by decide)) (pd rfl rfl rfl rfl) (ja_cons (jv 0) ja_nil)) (hb := fun ho ha => pe_bm PySem.F.plainAttrs_list PySem.F.slot_list_append PySem.F.type_list_append mt_append ho ha)) (jss_cons (js_app (i := 1) rfl (Or.inr (Or.inl rfl)) (je_and (jcall o__law_is_sized (hr.mono (by decide)) (pd rfl rfl rfl rfl) (ja_cons (jv 0) (ja_cons je_int ja_nil))) (je_and (jcall o__law_is_name (hr.mono (by decide)) (pd rfl rfl rfl rfl) (ja_cons (je_ix ix_seq o_ix (JE.jb (jv 0)) (JE.jb je_int) (fun _ _ => rfl)) ja_nil)) (je_one (jcall o__law_is_number (hr.mono (by decide)) (pd rfl rfl rfl rfl) (ja_cons (je_ix ix_seq o_ix (JE.jb (jv 0)) (JE.jb je_int) (fun _ _ => rfl)) ja_nil))))) (hb := fun ho ha => pe_bm PySem.F.plainAttrs_list PySem.F.slot_list_append PySem.F.type_list_append mt_append ho ha)) (jss_cons (js_own (i := 2) sc__law_kinds_right.nd rfl (Or.inr rfl) (jf_lst (ja_cons (jcall o_is_integer (hr.mono (by decide)) (pd rfl rfl rfl rfl) (ja_cons (jv 0) ja_nil)) (ja_cons (jcall o_is_number (hr.mono (by decide)) (pd rfl rfl rfl rfl) (ja_cons (jv 0) ja_nil)) (ja_cons (jcall o_is_name (hr.mono (by decide)) (pd rfl rfl rfl rfl) (ja_cons (jv 0) ja_nil)) (ja_cons (jcall o_is_doing (hr.mono (by decide)) (pd rfl rfl rfl rfl) (ja_cons (jv 0) ja_nil)) (ja_cons (jcall o_is_arrow (hr.mono (by decide)) (pd rfl rfl rfl rfl) (ja_cons (jv 0) ja_nil)) ja_nil))))))) (jss_cons (js_ext (i := 2) rfl (Or.inr (Or.inl rfl)) (je_lst (ja_cons (jcall o_is_channel (hr.mono (by decide)) (pd rfl rfl rfl rfl) (ja_cons (jv 0) ja_nil)) (ja_cons (jcall o_is_party (hr.mono (by decide)) (pd rfl rfl rfl rfl) (ja_cons (jv 0) ja_nil)) (ja_cons (jcall o_is_program (hr.mono (by decide)) (pd rfl rfl rfl rfl) (ja_cons (jv 0) ja_nil)) (ja_cons (jcall o_is_event (hr.mono (by decide)) (pd rfl rfl rfl rfl) (ja_cons (jv 0) ja_nil)) ja_nil))))) (hb := fun ho ha => pe_bm PySem.F.plainAttrs_list PySem.F.slot_list_extend PySem.F.type_list_extend mt_extend ho ha)) (jss_one (js_ret (je_cmp (op_eqD hu) o_eq (JE.jb (JF.je (jf_lc (own := [("_law_k", 3)]) rfl sc__law_kinds_right.nd (ji_range1 (by rfl) B.range (ja_cons je_int ja_nil)) (blkOk_by (N := ["_law_thing", "_law_due", "_law_told", "_law_k"]) (sc := defScope (topS 42)) (by decide +kernel)) (by decide) (fun _ _ _ _ _ => (pg_name (i := 3) sc__law_kinds_right.nd rfl (Or.inl rfl))) (fun _ _ _ _ _ => (jts_one (JW.jt (jw_or (jt_not (jt_val (je_isi (by rfl) B.isinstance (by rfl) B.bool (by decide +kernel) (je_ix ix_seq o_ix (jw 2) (JE.jb (jv 3)) (fun _ _ => rfl))))) (jw_or1 (jt_cmp (op_neD hu) o_ne (JE.jb (je_ix ix_seq o_ix (jw 2) (JE.jb (jv 3)) (fun _ _ => rfl))) (JE.jb (je_ix ix_seq o_ix (jw 1) (JE.jb (jv 3)) (fun _ _ => rfl))) (nomark _))))))) (fun _ _ _ _ _ => (jv 3))))) (JE.jb (je_lst ja_nil)) (nomark _))))))))))
theorem sc__law_long_right : FnScope ["_law_feed_here", "_law_many", "_law_ends", "_law_k", "_law_arrows", "_law_j", "_law_things", "_law_deep", "_law_lap", "_law_one"] ["_law_feed_here"] (defScope (topS 45)) := ⟨rfl, rfl, rfl, by decide +kernel, rfl, by decide +kernel, by decide +kernel⟩
def s__law_long_right : En → M (Fl × En) := sSeq (sSet 1 (e2 addM (eC (.int 40)) (eCall 2 PG.m_law_draw (aCons (eVar 0) (aCons (eC (.int 200)) (aNil)))))) (sSeq (sSet 2 (e1 tupM (eL (eLc (iRange1 (aCons (eVar 1) (aNil))) (.nm 3) [3] (tTrue) (e2 mulM (eC (.int 3)) (eVar 3)))))) (sSeq (sSet 4 (e1 tupM (eL (eLc (iRange1 (aCons (eC (.int 30)) (aNil))) (.nm 3) [3] (tTrue) (eTup (aCons (eVar 3) (aCons (eTup (aCons (eC (.str "do")) (aCons (eC (.str "go")) (aNil)))) (aCons (eVar 3) (aNil))))))))) (sSeq (sPar 3 5 (eCall 2 PG.m_law_draw (aCons (eVar 0) (aCons (eVar 1) (aNil)))) (eCall 2 PG.m_law_draw (aCons (eVar 0) (aCons (eC (.int 30)) (aNil))))) (sSeq (sOwn 6 (fLst (aCons (eTup (aCons (eC (.str "ann")) (aCons (eVar 2) (aCons (eVar 4) (aNil))))) (aCons (eTup (aCons (eC (.str "ann")) (aCons (e2 addM (e2 addM (eSl (eVar 2) oNo (oSo (eVar 3))) (eSl (eVar 2) (oSo (eVar 3)) (oSo (e2 addM (eVar 3) (eC (.int 1)))))) (eSl (eVar 2) (oSo (eVar 3)) oNo)) (aCons (eVar 4) (aNil))))) (aNil))))) (sSeq (sApp 6 (eTup (aCons (eC (.str "ann")) (aCons (eVar 2) (aCons (e2 addM (eVar 4) (eSl (eVar 4) (oSo (eVar 5)) (oSo (e2 addM (eVar 5) (eC (.int 1)))))) (aNil)))))) (sSeq (sApp 6 (eTup (aCons (eC (.str "ann")) (aCons (eVar 2) (aCons (e2 addM (e2 addM (eSl (eVar 4) oNo (oSo (eVar 5))) (eTup (aCons (eTup (aCons (eVar 5) (aCons (eTup (aCons (eC (.str "put")) (aCons (eC (.str "l")) (aCons (eC (.str "A")) (aNil))))) (aCons (eC (.int 0)) (aNil))))) (aNil)))) (eSl (eVar 4) (oSo (eVar 5)) oNo)) (aNil)))))) (sSeq (sSet 7 (eTup (aCons (eC (.str "do")) (aCons (eC (.str "go")) (aNil))))) (sSeq (sFor (iRange1 (aCons (eC (.int 27)) (aNil))) (.nm 8) (sSet 7 (eTup (aCons (eVar 7) (aNil))))) (sSeq (sExt 6 (eLst (aCons (eVar 7) (aCons (eTup (aCons (eC (.str "ann")) (aCons (eVar 7) (aCons (eTup (aNil)) (aNil))))) (aCons (eTup (aCons (eC (.int 0)) (aCons (eVar 7) (aCons (eC (.int 0)) (aNil))))) (aCons (eTup (aCons (eVar 2) (aCons (eVar 2) (aNil)))) (aCons (eVar 2) (aNil)))))))) (sFrz 6 (sRet (e2 eqM (eL (eLc (iSeq (eVar 6)) (.nm 9) [9] (tNt (tBl (eCall 1 m__law_kinds_right (aCons (eVar 9) (aNil))))) (eVar 9))) (eLst (aNil))))))))))))))
def m__law_long_right : List D → M D := runB 10 s__law_long_right
theorem d__law_long_right (F : Fn0 K mg "_law_long_right" (topS 45) ["_law_feed_here"]) (B : Blt mg) (o__law_draw : Own P w K mg base 1 "_law_draw" ["_law_feed_here", "_law_many"] PG.m_law_draw) (o__law_kinds_right : Own P w K mg base 6 "_law_kinds_right" ["_law_thing"] m__law_kinds_right) : Own P w K mg base 7 "_law_long_right" ["_law_feed_here"] m__law_long_right :=
  own_def F sc__law_long_right fun fa cdv A outer s H G μ E hr => by
    have hu := hr.units
    have hu1 := Nat.lt_of_le_of_lt (Nat.add_le_add_left (by decide : 1 ≤ 65) _) (hv_of hr)
    have hv := hv_of hr
    exact (jss_cons (js_set (i := 1) sc__law_long_right.nd rfl (Or.inl rfl) (je_op op_addA o_add (JE.jb je_int) (JE.jb (jcall o__law_draw (hr.mono (by decide)) (pd rfl rfl rfl rfl) (ja_cons (jv 0) (ja_cons je_int ja_nil)))))) (jss_cons (js_set (i := 2) sc__law_long_right.nd rfl (Or.inl rfl) (je_callTy call_tuple_of c_tup (by rfl) B.tuple (by decide +kernel) (JE.jb (JF.je (jf_lc (own := [("_law_k", 3)]) rfl sc__law_long_right.nd (ji_range1 (by rfl) B.range (ja_cons (jv 1) ja_nil)) (blkOk_by (N := ["_law_feed_here", "_law_many", "_law_ends", "_law_k", "_law_arrows", "_law_j", "_law_things", "_law_deep", "_law_lap", "_law_one"]) (sc := defScope (topS 45)) (by decide +kernel)) (by decide) (fun _ _ _ _ _ => (pg_name (i := 3) sc__law_long_right.nd rfl (Or.inl rfl))) (fun _ _ _ _ _ => jts_nil) (fun _ _ _ _ _ => (je_op op_mul o_mul (JE.jb je_int) (JE.jb (jv 3))))))))) (jss_cons (js_set (i := 4) sc__law_long_right.nd rfl (Or.inl rfl) (je_callTy call_tuple_of c_tup (by rfl) B.tuple (by decide +kernel) (JE.jb (JF.je (jf_lc (own := [("_law_k", 3)]) rfl sc__law_long_right.nd (ji_range1 (by rfl) B.range (ja_cons je_int ja_nil)) (blkOk_by (N := ["_law_feed_here", "_law_many", "_law_ends", "_law_k", "_law_arrows", "_law_j", "_law_things", "_law_deep", "_law_lap", "_law_one"]) (sc := defScope (topS 45)) (by decide +kernel)) (by decide) (fun _ _ _ _ _ => (pg_name (i := 3) sc__law_long_right.nd rfl (Or.inl rfl))) (fun _ _ _ _ _ => jts_nil) (fun _ _ _ _ _ => (je_tup (ja_cons (jv 3) (ja_cons (je_tup (ja_cons je_str (ja_cons je_str ja_nil))) (ja_cons (jv 3) ja_nil)))))))))) (jss_cons (js_par (i := 3) (j := 5) rfl sc__law_long_right.nd rfl rfl (jcall o__law_draw (hr.mono (by decide)) (pd rfl rfl rfl rfl) (ja_cons (jv 0) (ja_cons (jv 1) ja_nil))) (jcall o__law_draw (hr.mono (by decide)) (pd rfl rfl rfl rfl) (ja_cons (jv 0) (ja_cons je_int ja_nil)))) (jss_cons (js_own (i := 6) sc__law_long_right.nd rfl (Or.inl rfl) (jf_lst (ja_cons (je_tup (ja_cons je_str (ja_cons (jv 2) (ja_cons (jv 4) ja_nil)))) (ja_cons (je_tup (ja_cons je_str (ja_cons (je_op op_addA o_add (JE.jb (je_op op_addA o_add (JE.jb (je_slice (JE.jb (jv 2)) jo_no (jo_so (jv 3)))) (JE.jb (je_slice (JE.jb (jv 2)) (jo_so (jv 3)) (jo_so (je_op op_addA o_add (JE.jb (jv 3)) (JE.jb je_int))))))) (JE.jb (je_slice (JE.jb (jv 2)) (jo_so (jv 3)) jo_no))) (ja_cons (jv 4) ja_nil)))) ja_nil)))) (jss_cons (js_app (i := 6) rfl (Or.inl rfl) (je_tup (ja_cons je_str (ja_cons (jv 2) (ja_cons (je_op op_addA o_add (JE.jb (jv 4)) (JE.jb (je_slice (JE.jb (jv 4)) (jo_so (jv 5)) (jo_so (je_op op_addA o_add (JE.jb (jv 5)) (JE.jb je_int)))))) ja_nil)))) (hb := fun ho ha => pe_bm PySem.F.plainAttrs_list PySem.F.slot_list_append PySem.F.type_list_append mt_append ho ha)) (jss_cons (js_app (i := 6) rfl (Or.inl rfl) (je_tup (ja_cons je_str (ja_cons (jv 2) (ja_cons (je_op op_addA o_add (JE.jb (je_op op_addA o_add (JE.jb (je_slice (JE.jb (jv 4)) jo_no (jo_so (jv 5)))) (JE.jb (je_tup (ja_cons (je_tup (ja_cons (jv 5) (ja_cons (je_tup (ja_cons je_str (ja_cons je_str (ja_cons je_str ja_nil)))) (ja_cons je_int ja_nil)))) ja_nil))))) (JE.jb (je_slice (JE.jb (jv 4)) (jo_so (jv 5)) jo_no))) ja_nil)))) (hb := fun ho ha => pe_bm PySem.F.plainAttrs_list PySem.F.slot_list_append PySem.F.type_list_append mt_append ho ha)) (jss_cons (js_set (i := 7) sc__law_long_right.nd rfl (Or.inl rfl) (je_tup (ja_cons je_str (ja_cons je_str ja_nil)))) (jss_cons (js_for (passes_of rfl) rfl (ji_range1 (by rfl) B.range (ja_cons je_int ja_nil)) (pg_name (i := 8) sc__law_long_right.nd rfl (Or.inl rfl)) (fun _ _ => (jss_one (js_set (i := 7) sc__law_long_right.nd rfl (Or.inl rfl) (je_tup (ja_cons (jv 7) ja_nil)))))) (jss_cons (js_ext (i := 6) rfl (Or.inl rfl) (je_lst (ja_cons (jv 7) (ja_cons (je_tup (ja_cons je_str (ja_cons (jv 7) (ja_cons (je_tup ja_nil) ja_nil)))) (ja_cons (je_tup (ja_cons je_int (ja_cons (jv 7) (ja_cons je_int ja_nil)))) (ja_cons (je_tup (ja_cons (jv 2) (ja_cons (jv 2) ja_nil))) (ja_cons (jv 2) ja_nil)))))) (hb := fun ho ha => pe_bm PySem.F.plainAttrs_list PySem.F.slot_list_extend PySem.F.type_list_extend mt_extend ho ha)) (jss_one (js_frz (i := 6) (js_ret (je_cmp (op_eqD hu) o_eq (JE.jb (JF.je (jf_lc (own := [("_law_one", 9)]) rfl sc__law_long_right.nd (ji_seq (jv 6)) (blkOk_by (N := ["_law_feed_here", "_law_many", "_law_ends", "_law_k", "_law_arrows", "_law_j", "_law_things", "_law_deep", "_law_lap", "_law_one"]) (sc := defScope (topS 45)) (by decide +kernel)) (by decide) (fun _ _ _ _ _ => (pg_name (i := 9) sc__law_long_right.nd rfl (Or.inl rfl))) (fun _ _ _ _ _ => (jts_one (jt_not (jt_val (jcall o__law_kinds_right (hr.mono (by decide)) px (ja_cons (jv 9) ja_nil)))))) (fun _ _ _ _ _ => (jv 9))))) (JE.jb (je_lst ja_nil)) (nomark _)))))))))))))))
theorem sc_law : FnScope ["_law_script", "_law_feed_here", "_law_things", "_law_lap", "_law_part", "_law_thing", "_law_kept", "_law_one"] ["_law_script"] (defScope (topS 47)) := ⟨rfl, rfl, rfl, by decide +kernel, rfl, by decide +kernel, by decide +kernel⟩
def s_law : En → M (Fl × En) := sSeq (sSet 1 (eCall 1 PG.m_law_feed (aCons (eVar 0) (aNil)))) (sSeq (sOwn 2 (fAddL (eCall 0 m__law_plain_things aNil) (eCall 0 m__law_plain_tuples aNil))) (sSeq (sFor (iRange1 (aCons (eC (.int 2)) (aNil))) (.nm 3) (sFor (iSeq (eCall 2 m__law_parts (aCons (eVar 1) (aCons (eCall 1 PG.m_law_built (aCons (eVar 1) (aNil))) (aNil))))) (.nm 4) (sExt 2 (eLst (aCons (eVar 4) (aCons (eCall 2 (m__law_spoilt 10) (aCons (eVar 1) (aCons (eVar 4) (aNil)))) (aCons (eCall 2 (m__law_spoilt 10) (aCons (eVar 1) (aCons (eVar 4) (aNil)))) (aNil)))))))) (sSeq (sFrz 2 (sFor (iSeq (eVar 2)) (.nm 5) (sIf (tNt (tBl (eCall 1 m__law_kinds_right (aCons (eVar 5) (aNil))))) (sRet (eC (.bl false))) (sNil)))) (sSeq (sSet 6 (eLst (aCons (eLst (aCons (eC (.str "do")) (aCons (eC (.str "go")) (aNil)))) (aCons (eLst (aCons (eC (.str "ann")) (aCons (eC (.int 0)) (aNil)))) (aNil))))) (sSeq (sIf (tOor (tBl (e2 neM (eL (eLc (iSeq (eVar 6)) (.nm 7) [7] (tNt (tBl (eCall 1 m__law_kinds_right (aCons (eVar 7) (aNil))))) (eVar 7))) (eLst (aNil)))) (tBl (e2 neM (eVar 6) (eLst (aCons (eLst (aCons (eC (.str "do")) (aCons (eC (.str "go")) (aNil)))) (aCons (eLst (aCons (eC (.str "ann")) (aCons (eC (.int 0)) (aNil)))) (aNil))))))) (sRet (eC (.bl false))) (sNil)) (sRet (eCall 1 m__law_long_right (aCons (eVar 1) (aNil)))))))))
def m_law : List D → M D := runB 8 s_law
theorem d_law (F : Fn0 K mg "law" (topS 47) ["_law_script"]) (B : Blt mg) (o__law_feed : Own P w K mg base 1 "_law_feed" ["_law_script"] PG.m_law_feed) (o__law_plain_things : Own P w K mg base 1 "_law_plain_things" [] m__law_plain_things) (o__law_plain_tuples : Own P w K mg base 1 "_law_plain_tuples" [] m__law_plain_tuples) (o__law_parts : Own P w K mg base 3 "_law_parts" ["_law_feed_here", "_law_program"] m__law_parts) (o__law_built : Own P w K mg base 4 "_law_built" ["_law_feed_here"] PG.m_law_built) (o__law_spoilt : Own P w K mg base 13 "_law_spoilt" ["_law_feed_here", "_law_thing"] (m__law_spoilt 10)) (o__law_kinds_right : Own P w K mg base 6 "_law_kinds_right" ["_law_thing"] m__law_kinds_right) (o__law_long_right : Own P w K mg base 7 "_law_long_right" ["_law_feed_here"] m__law_long_right) : Own P w K mg base 14 "law" ["_law_script"] m_law :=
  own_def F sc_law fun fa cdv A outer s H G μ E hr => by
    have hu := hr.units
    have hu1 := Nat.lt_of_le_of_lt (Nat.add_le_add_left (by decide : 1 ≤ 65) _) (hv_of hr)
    have hv := hv_of hr
    exact (jss_cons (js_set (i := 1) sc_law.nd rfl (Or.inl rfl) (jcall o__law_feed (hr.mono (by decide)) (pd rfl rfl rfl rfl) (ja_cons (jv 0) ja_nil))) (jss_cons (js_own (i := 2) sc_law.nd rfl (Or.inl rfl) (jf_addL (JE.jb (jcall0 o__law_plain_things (hr.mono (by decide)) (pd rfl rfl rfl rfl))) (JE.jb (jcall0 o__law_plain_tuples (hr.mono (by decide)) (pd rfl rfl rfl rfl))))) (jss_cons (js_for (passes_of rfl) rfl (ji_range1 (by rfl) B.range (ja_cons je_int ja_nil)) (pg_name (i := 3) sc_law.nd rfl (Or.inl rfl)) (fun _ _ => (jss_one (js_for (passes_of rfl) rfl (ji_seq (jcall o__law_parts (hr.mono (by decide)) (pd rfl rfl rfl rfl) (ja_cons (jv 1) (ja_cons (jcall o__law_built (hr.mono (by decide)) (pd rfl rfl rfl rfl) (ja_cons (jv 1) ja_nil)) ja_nil)))) (pg_name (i := 4) sc_law.nd rfl (Or.inl rfl)) (fun _ _ => (jss_one (js_ext (i := 2) rfl (Or.inl rfl) (je_lst (ja_cons (jv 4) (ja_cons (jcall o__law_spoilt (hr.mono (by decide)) (pd rfl rfl rfl rfl) (ja_cons (jv 1) (ja_cons (jv 4) ja_nil))) (ja_cons (jcall o__law_spoilt (hr.mono (by decide)) (pd rfl rfl rfl rfl) (ja_cons (jv 1) (ja_cons (jv 4) ja_nil))) ja_nil)))) (hb := fun ho ha => pe_bm PySem.F.plainAttrs_list PySem.F.slot_list_extend PySem.F.type_list_extend mt_extend ho ha)))))))) (jss_cons (js_frz (i := 2) (js_for (passes_of rfl) rfl (ji_seq (jv 2)) (pg_name (i := 5) sc_law.nd rfl (Or.inl rfl)) (fun _ _ => (jss_one (js_if (jt_not (jt_val (jcall o__law_kinds_right (hr.mono (by decide)) (pd rfl rfl rfl rfl) (ja_cons (jv 5) ja_nil)))) (jss_one (js_ret je_bl)) jss_nil))))) (jss_cons (js_set (i := 6) sc_law.nd rfl (Or.inl rfl) (je_lst (ja_cons (je_lst (ja_cons je_str (ja_cons je_str ja_nil))) (ja_cons (je_lst (ja_cons je_str (ja_cons je_int ja_nil))) ja_nil)))) (jss_cons (js_if (JW.jt (jw_or (jt_cmp (op_neD hu) o_ne (JE.jb (JF.je (jf_lc (own := [("_law_one", 7)]) rfl sc_law.nd (ji_seq (jv 6)) (blkOk_by (N := ["_law_script", "_law_feed_here", "_law_things", "_law_lap", "_law_part", "_law_thing", "_law_kept", "_law_one"]) (sc := defScope (topS 47)) (by decide +kernel)) (by decide) (fun _ _ _ _ _ => (pg_name (i := 7) sc_law.nd rfl (Or.inl rfl))) (fun _ _ _ _ _ => (jts_one (jt_not (jt_val (jcall o__law_kinds_right (hr.mono (by decide)) px (ja_cons (jv 7) ja_nil)))))) (fun _ _ _ _ _ => (jv 7))))) (JE.jb (je_lst ja_nil)) (nomark _)) (jw_or1 (jt_cmp (op_neD hu) o_ne (JE.jb (jv 6)) (JE.jb (je_lst (ja_cons (je_lst (ja_cons je_str (ja_cons je_str ja_nil))) (ja_cons (je_lst (ja_cons je_str (ja_cons je_int ja_nil))) ja_nil)))) (nomark _))))) (jss_one (js_ret je_bl)) jss_nil) (jss_one (js_ret (jcall o__law_long_right (hr.mono (by decide)) (pd rfl rfl rfl rfl) (ja_cons (jv 1) ja_nil))))))))))
end
end LK

set_option linter.all false
set_option maxRecDepth 100000
set_option maxHeartbeats 4000000
/-! V1: values of any kind; names, numbers, doings, arrows, ends, forms: what program and law say of them. -/
namespace LK
open PySem PySem.Spec L2 PL PG
theorem small2 {n : Nat} (h : n ≤ 1000000) : n ≤ sizeLine := Nat.le_trans h (by decide)
theorem two_ok : 2 ≤ sizeLine := by decide
theorem at0 {α : Type} {x : α} {l : List α} : atI (x :: l) 0 = some x := atI_nat (j := 0) rfl
theorem at1 {α : Type} {x y : α} {l : List α} : atI (x :: y :: l) 1 = some y := atI_nat (j := 1) rfl
theorem at2 {α : Type} {x y z : α} {l : List α} : atI (x :: y :: z :: l) 2 = some z := atI_nat (j := 2) rfl
theorem at3 {α : Type} {x y z u : α} {l : List α} : atI (x :: y :: z :: u :: l) 3 = some u := atI_nat (j := 3) rfl
def Lf : D → Prop
  | .non => True
  | .bl _ => True
  | .int i => i.natAbs < 10 ^ 100
  | .str x => PyData.strOk x = true ∧ x.length ≤ 1000
  | _ => False
def Va : Nat → D → Prop
  | n + 1, .tup ds => ds.length ≤ 1000 ∧ ∀ d ∈ ds, Va n d
  | n + 1, .lst ds => ds.length ≤ 1000 ∧ ∀ d ∈ ds, Va n d
  | _, d => Lf d
theorem Va.lf {d : D} (h : Lf d) : ∀ n, Va n d := fun n => by
  cases n with
  | zero => cases d <;> exact h
  | succ n => cases d <;> first | exact h | exact h.elim
theorem Va.succ : ∀ {n : Nat} {d : D}, Va n d → Va (n + 1) d
  | 0, d, h => by
    have h' : Lf d := by cases d <;> exact h
    exact Va.lf h' 1
  | n + 1, .tup ds, h => ⟨h.1, fun d hd => Va.succ (h.2 d hd)⟩
  | n + 1, .lst ds, h => ⟨h.1, fun d hd => Va.succ (h.2 d hd)⟩
  | n + 1, .non, h => h
  | n + 1, .bl _, h => h
  | n + 1, .int _, h => h
  | n + 1, .str _, h => h
  | n + 1, .frz _, h => h
  | n + 1, .ref _, h => h
theorem Va.mono {n m : Nat} {d : D} (h : Va n d) (hm : n ≤ m) : Va m d := by
  obtain ⟨k, rfl⟩ := Nat.exists_eq_add_of_le hm
  induction k with
  | zero => exact h
  | succ k ih => exact Va.succ (ih (by omega))
theorem va_shp : ∀ {n : Nat} {d : D}, Va n d → Shp n d
  | _, .non, _ => shp_non.mono (Nat.zero_le _)
  | _, .bl _, _ => shp_bl.mono (Nat.zero_le _)
  | _, .int _, _ => shp_int.mono (Nat.zero_le _)
  | 0, .str x, h => (shp_str h.1).mono (Nat.zero_le _)
  | _ + 1, .str x, h => (shp_str h.1).mono (Nat.zero_le _)
  | n + 1, .tup ds, h => shp_tup fun d hd => va_shp (h.2 d hd)
  | n + 1, .lst ds, h => shp_lst fun d hd => va_shp (h.2 d hd)
  | 0, .tup _, h => h.elim
  | 0, .lst _, h => h.elim
  | 0, .frz _, h => h.elim
  | 0, .ref _, h => h.elim
  | _ + 1, .frz _, h => h.elim
  | _ + 1, .ref _, h => h.elim
/-- a value that may be judged -/
def An (d : D) : Prop := Va 60 d
theorem An.shp {d : D} (h : An d) : d.shp = true := (va_shp h).shp
theorem An.mem {ds : List D} (h : An (.tup ds)) : ∀ d ∈ ds, An d := fun d hd => Va.succ (h.2 d hd)
theorem An.memL {ds : List D} (h : An (.lst ds)) : ∀ d ∈ ds, An d := fun d hd => Va.succ (h.2 d hd)
theorem An.len {ds : List D} (h : An (.tup ds)) : ds.length ≤ 1000 := h.1
theorem An.str {x : Str} (h : An (.str x)) : PyData.strOk x = true ∧ x.length ≤ 1000 := h
theorem an_of {n : Nat} {d : D} (h : Va n d) (hn : n ≤ 60 := by decide) : An d := h.mono hn
/-- a tuple of which a part was changed -/
theorem An.frz {ds : List D} (h : An (.frz ds)) : False := h
theorem An.ref {n : Nat} (h : An (.ref n)) : False := h
/-! ### kinds -/
def isS (w : Str) : D → Bool
  | .str x => x == w
  | _ => false
theorem eqv_isS {w : Str} {d : D} : d.eqv (.str w) = isS w d := by
  cases d <;> simp [D.eqv, D.py, PyData.eqv, isS]
def numB : D → Bool
  | .int i => decide (0 ≤ i)
  | _ => false
def nameS (x : Str) : Bool := decide (1 ≤ x.length) && (decide (x.length ≤ 8) && x.cps.toList.all fun c => decide (c ∈ abc.cps.toList))
def nameB : D → Bool
  | .str x => nameS x
  | _ => false
def tupB : D → Bool
  | .tup _ => true
  | _ => false
def formB (d : D) : Bool := isS "queue" d || (isS "bag" d || isS "call" d)
def dgB : D → Bool
  | .tup [a, b] => isS "do" a && nameB b
  | .tup [a, b, c] => (isS "put" a || isS "take" a) && (nameB b && nameB c)
  | _ => false
def arB : D → Bool
  | .tup [a, b, c] => numB a && (dgB b && numB c)
  | _ => false
def rowB : D → Bool
  | .tup [a, b, c, f] => (nameB a && (nameB b && nameB c)) && formB f
  | _ => false
def intV : D → Int
  | .int i => i
  | _ => 0
def ascB (ns : List Int) : Bool := (List.range (ns.length - 1)).all fun k => decide (ns.getD k 0 < ns.getD (k + 1) 0)
def endsB : D → Bool
  | .tup ds => ds.all numB && ascB (ds.map intV)
  | _ => false
section
variable {d : D} {st : Sto} {Q : D → Sto → Prop} {n : Nat}
theorem wi_tup (h : An d) (k : Q (.bl (tupB d)) st) : wp (isiM "tuple" d) Q st := by
  cases d with
  | frz _ => exact h.elim
  | ref _ => exact h.elim
  | _ =>
    subst_eqs
    exact k
theorem spec_is_integer (h : An d) (k : Q (.bl (match d with | .int _ => true | _ => false)) st) : wp (m_is_integer [d]) Q st := by
  refine w_run' [.val d] rfl ?_
  unfold s_is_integer
  cases d with
  | frz _ => exact h.elim
  | ref _ => exact h.elim
  | _ =>
    subst_eqs
    exact k
theorem spec_is_number (h : An d) (k : Q (.bl (numB d)) st) : wp (m_is_number [d]) Q st := by
  refine w_run' [.val d] rfl ?_
  unfold s_is_number
  subst_eqs
  refine ⟨rfl, spec_is_integer h ?_⟩
  cases d with
  | frz _ => exact h.elim
  | ref _ => exact h.elim
  | _ =>
    subst_eqs
    exact k
theorem spec_lnum (h : An d) (k : Q (.bl (numB d)) st) : wp (m__law_is_number [d]) Q st := by
  refine w_run' [.val d] rfl ?_
  unfold s__law_is_number
  cases d with
  | frz _ => exact h.elim
  | ref _ => exact h.elim
  | _ =>
    subst_eqs
    exact k
theorem ok_iff {x : Str} : PyData.strOk x = true ↔ ∀ c ∈ x.cps.toList, PyData.strOk ⟨#[c]⟩ = true := by
  unfold PyData.strOk
  rw [Array.all_eq_true_iff_forall_mem]
  constructor
  · intro h c hc
    rw [Array.all_eq_true_iff_forall_mem]
    intro d hd
    have : d = c := by simpa using hd
    subst this
    exact h d (Array.mem_toList_iff.mp hc)
  · intro h c hc
    have := h c (Array.mem_toList_iff.mpr hc)
    rw [Array.all_eq_true_iff_forall_mem] at this
    exact this c (by simp)
theorem lc_fm {α : Type} {set : D → En → Option En} {tt : En → M Bool} {te : En → M D} {ρ : En} (f : α → D) (p : α → Bool) (g : α → D) : ∀ (xs : List α) {R : List D → Sto → Prop}, (∀ x ∈ xs, ∃ ρ', set (f x) ρ = some ρ' ∧ (∀ T : Bool → Sto → Prop, T (p x) st → wp (tt ρ') T st) ∧ (p x = true → ∀ Q : D → Sto → Prop, Q (g x) st → wp (te ρ') Q st)) →
    R ((xs.filter p).map g) st → wp (lcL set tt te ρ (xs.map f)) R st
  | [], R, _, k => by
    show wp (M.pure _) R st
    rw [wp_pure]; exact k
  | x :: xs, R, hs, k => by
    obtain ⟨ρ', e, h1, h2⟩ := hs x List.mem_cons_self
    show wp ((opt (set (f x) ρ)).bind _) R st
    rw [wp_bind, e, wp_some, wp_bind]
    refine h1 _ ?_
    by_cases h : p x = true
    · rw [if_pos h, wp_bind]
      refine h2 h _ ?_
      rw [wp_bind]
      refine lc_fm f p g xs (fun z hz => hs z (List.mem_cons_of_mem _ hz)) ?_
      rw [wp_pure]
      rw [List.filter_cons_of_pos h] at k
      exact k
    · rw [if_neg h]
      refine lc_fm f p g xs (fun z hz => hs z (List.mem_cons_of_mem _ hz)) ?_
      rw [List.filter_cons_of_neg h] at k
      exact k
theorem lc_mp {α : Type} {set : D → En → Option En} {te : En → M D} {ρ : En} (f : α → D) (g : α → D) (xs : List α) {R : List D → Sto → Prop} (hs : ∀ x ∈ xs, ∃ ρ', set (f x) ρ = some ρ' ∧ (∀ Q : D → Sto → Prop, Q (g x) st → wp (te ρ') Q st))
    (k : R (xs.map g) st) : wp (lcL set tTrue te ρ (xs.map f)) R st := by
  refine lc_fm f (fun _ => true) g xs (fun x hx => ?_) (by rw [List.filter_eq_self.mpr fun _ _ => rfl]; exact k)
  obtain ⟨ρ', e, h⟩ := hs x hx
  exact ⟨ρ', e, fun T hT => w_true hT, fun _ => h⟩
/-- the items themselves -/
theorem lc_self {set : D → En → Option En} {te : En → M D} {ρ : En} (g : D → D) (xs : List D) {R : List D → Sto → Prop} (hs : ∀ x ∈ xs, ∃ ρ', set x ρ = some ρ' ∧ (∀ Q : D → Sto → Prop, Q (g x) st → wp (te ρ') Q st))
    (k : R (xs.map g) st) : wp (lcL set tTrue te ρ xs) R st := by
  have := lc_mp (st := st) (set := set) (te := te) (ρ := ρ) (fun d : D => d) g xs (R := R) hs k
  rw [List.map_id'] at this; exact this
theorem lc_selfF {set : D → En → Option En} {tt : En → M Bool} {te : En → M D} {ρ : En} (p : D → Bool) (g : D → D) (xs : List D) {R : List D → Sto → Prop} (hs : ∀ x ∈ xs, ∃ ρ', set x ρ = some ρ' ∧ (∀ T : Bool → Sto → Prop, T (p x) st → wp (tt ρ') T st) ∧ (p x = true → ∀ Q : D → Sto → Prop, Q (g x) st → wp (te ρ') Q st))
    (k : R ((xs.filter p).map g) st) : wp (lcL set tt te ρ xs) R st := by
  have := lc_fm (st := st) (set := set) (tt := tt) (te := te) (ρ := ρ) (fun d : D => d) p g xs (R := R) hs k
  rw [List.map_id'] at this; exact this
theorem bools_map {α : Type} (p : α → Bool) : ∀ xs : List α, bools (xs.map fun x => D.bl (p x)) = some (xs.map p)
  | [] => rfl
  | x :: xs => by show (bools (xs.map fun x => D.bl (p x))).map (p x :: ·) = _; rw [bools_map p xs]; rfl
theorem w_all {α : Type} {p : α → Bool} {xs : List α} (k : Q (.bl (xs.all p)) st) : wp (allM (.lst (xs.map fun x => D.bl (p x)))) Q st := by
  show wp ((opt (bools _)).bind _) Q st
  rw [wp_bind, bools_map, wp_some]
  have e : (xs.map p).all id = xs.all p := by rw [List.all_map]; rfl
  rw [e]
  exact ⟨k⟩
theorem it_str {x : Str} (h : x.length ≤ sizeLine) : itD (.str x) = some (x.cps.toList.map charD) := by
  show (if x.length ≤ sizeLine then some (x.cps.toList.map charD) else none) = _
  rw [if_pos h]
theorem w_in1 {c : Nat} {y : Str} (k : Q (.bl (decide (c ∈ y.cps.toList))) st) : wp (inM (charD c) (.str y)) Q st := ⟨k⟩
theorem w_nin1 {c : Nat} {y : Str} (k : Q (.bl (!decide (c ∈ y.cps.toList))) st) : wp (notInM (charD c) (.str y)) Q st := ⟨k⟩
theorem filter_nil {α : Type} (p : α → Bool) : ∀ xs : List α, (xs.filter fun x => !p x).isEmpty = xs.all p
  | [] => rfl
  | x :: xs => by
    cases h : p x with
    | true => rw [List.filter_cons_of_neg (by simp [h]), List.all_cons, h, Bool.true_and]; exact filter_nil p xs
    | false => rw [List.filter_cons_of_pos (by simp [h]), List.all_cons, h, Bool.false_and]; rfl
theorem chars_shp {cs : List Nat} (h : ∀ c ∈ cs, PyData.strOk ⟨#[c]⟩ = true) : (D.lst (cs.map charD)).shp = true := (shp_lst (k := 0) fun d hd => by
  obtain ⟨c, hc, rfl⟩ := List.mem_map.mp hd
  exact shp_str (h c hc)).shp
theorem spec_is_name (h : An d) (k : Q (.bl (nameB d)) st) : wp (m_is_name [d]) Q st := by
  refine w_run' [.val d, .no] rfl ?_
  unfold s_is_name
  cases d with
  | frz _ => exact h.elim
  | ref _ => exact h.elim
  | str x =>
    have hl : x.length ≤ sizeLine := small2 (by have := h.str.2; omega)
    subst_eqs
    refine w_lenS hl ?_
    subst_eqs
    have k : Q (.bl (nameS x)) st := k
    unfold nameS at k
    refine k_if (fun e => ?_) fun e => ?_
    · have e1 : decide (1 ≤ x.length) = true := by rw [decide_eq_true_eq] at e ⊢; omega
      rw [e1, Bool.true_and] at k
      subst_eqs
      refine k_if (fun e => ?_) fun e => ?_
      · have e2 : decide (x.length ≤ 8) = true := by rw [decide_eq_true_eq] at e ⊢; omega
        rw [e2, Bool.true_and] at k
        subst_eqs
        refine ⟨_, it_str hl, ?_⟩
        refine lc_mp charD (fun c => .bl (decide (c ∈ abc.cps.toList))) _ (fun c hc => ⟨_, set_nm (by simp [wipeE]), fun Q hQ => ?_⟩) ?_
        · subst_eqs
          exact w_in1 hQ
        · refine w_all ?_
          subst_eqs
          exact k
      · have e2 : decide (x.length ≤ 8) = false := by rw [decide_eq_false_iff_not] at e ⊢; omega
        rw [e2, Bool.false_and] at k
        subst_eqs
        exact k
    · have e1 : decide (1 ≤ x.length) = false := by rw [decide_eq_false_iff_not] at e ⊢; omega
      rw [e1, Bool.false_and] at k
      subst_eqs
      exact k
  | _ =>
    subst_eqs
    exact k
theorem spec_lname (h : An d) (k : Q (.bl (nameB d)) st) : wp (m__law_is_name [d]) Q st := by
  refine w_run' [.val d, .no] rfl ?_
  unfold s__law_is_name
  cases d with
  | frz _ => exact h.elim
  | ref _ => exact h.elim
  | str x =>
    have hl : x.length ≤ sizeLine := small2 (by have := h.str.2; omega)
    subst_eqs
    refine w_lenS hl ?_
    subst_eqs
    have k : Q (.bl (nameS x)) st := k
    unfold nameS at k
    refine k_if (fun e => ?_) fun e => ?_
    · have e1 : decide (1 ≤ x.length) = true := by rw [decide_eq_true_eq] at e ⊢; omega
      rw [e1, Bool.true_and] at k
      subst_eqs
      cases e2 : decide (x.length ≤ 8) with
      | true =>
        have e3 : decide ((x.length : Int) ≤ 8) = true := by rw [decide_eq_true_eq] at e2 ⊢; omega
        rw [e2, Bool.true_and] at k
        rw [e3]
        subst_eqs
        refine ⟨_, it_str hl, ?_⟩
        refine lc_fm charD (fun c => !decide (c ∈ abc.cps.toList)) charD _ (fun c hc => ⟨_, set_nm (by simp [wipeE]), fun T hT => ?_, fun _ Q hQ => ?_⟩) ?_
        · subst_eqs
          exact w_nin1 (k_bl hT)
        · subst_eqs
          exact hQ
        · subst_eqs
          refine ⟨by decide, w_eq (chars_shp fun c hc => ok_iff.mp h.str.1 c (List.mem_filter.mp hc).1) shp_nil ?_⟩
          rw [eqv_ll, eqvL_nil, List.isEmpty_map, filter_nil]
          subst_eqs
          exact k
      | false =>
        have e3 : decide ((x.length : Int) ≤ 8) = false := by rw [decide_eq_false_iff_not] at e2 ⊢; omega
        rw [e2, Bool.false_and] at k
        rw [e3]
        subst_eqs
        exact k
    · have e1 : decide (1 ≤ x.length) = false := by rw [decide_eq_false_iff_not] at e ⊢; omega
      rw [e1, Bool.false_and] at k
      subst_eqs
      exact k
  | _ =>
    subst_eqs
    exact k
end
end LK

set_option linter.all false
set_option maxRecDepth 100000
set_option maxHeartbeats 4000000
/-! V2: rows, doings, arrows, forms, ends. -/
namespace LK
open PySem PySem.Spec L2 PL PG
def sizB (n : Nat) : D → Bool
  | .tup ds => ds.length == n
  | _ => false
theorem nat_eqv {a b : Nat} : (D.int (a : Int)).eqv (.int (b : Int)) = (a == b) := by
  rw [eqv_ii]
  by_cases h : a = b
  · subst h; rw [beq_self_eq_true, beq_self_eq_true]
  · have : ¬ (a : Int) = (b : Int) := fun e => h (by omega)
    rw [beq_eq_false_iff_ne.mpr this, beq_eq_false_iff_ne.mpr h]
section
variable {d : D} {st : Sto} {Q : D → Sto → Prop} {n : Nat}
theorem spec_is_row (h : An d) (k : Q (.bl (sizB n d)) st) : wp (m_is_row [d, .int (n : Int)]) Q st := by
  refine w_run' [.val d, .val (.int (n : Int))] rfl ?_
  unfold s_is_row
  cases d with
  | frz _ => exact h.elim
  | ref _ => exact h.elim
  | tup ds =>
    subst_eqs
    refine w_eq shp_int.shp shp_int.shp ?_
    rw [nat_eqv]
    subst_eqs
    exact k
  | _ =>
    subst_eqs
    exact k
theorem spec_sized (h : An d) (k : Q (.bl (sizB n d)) st) : wp (m__law_is_sized [d, .int (n : Int)]) Q st := by
  refine w_run' [.val d, .val (.int (n : Int))] rfl ?_
  unfold s__law_is_sized
  cases d with
  | frz _ => exact h.elim
  | ref _ => exact h.elim
  | tup ds =>
    subst_eqs
    refine w_eq shp_int.shp shp_int.shp ?_
    rw [nat_eqv]
    subst_eqs
    exact k
  | _ =>
    subst_eqs
    exact k
theorem siz_tup (h : sizB n d = true) : ∃ ds, d = .tup ds ∧ ds.length = n := by
  cases d with
  | tup ds => exact ⟨ds, rfl, by simpa [sizB] using h⟩
  | _ => cases h
theorem len2 {ds : List D} (h : ds.length = 2) : ∃ a b, ds = [a, b] := by
  match ds, h with
  | [a, b], _ => exact ⟨a, b, rfl⟩
theorem len3 {ds : List D} (h : ds.length = 3) : ∃ a b c, ds = [a, b, c] := by
  match ds, h with
  | [a, b, c], _ => exact ⟨a, b, c, rfl⟩
theorem len4 {ds : List D} (h : ds.length = 4) : ∃ a b c e, ds = [a, b, c, e] := by
  match ds, h with
  | [a, b, c, e], _ => exact ⟨a, b, c, e, rfl⟩
theorem siz2 (h : sizB 2 d = true) : ∃ a b, d = .tup [a, b] := by
  obtain ⟨ds, rfl, e⟩ := siz_tup h; obtain ⟨a, b, rfl⟩ := len2 e; exact ⟨a, b, rfl⟩
theorem siz3 (h : sizB 3 d = true) : ∃ a b c, d = .tup [a, b, c] := by
  obtain ⟨ds, rfl, e⟩ := siz_tup h; obtain ⟨a, b, c, rfl⟩ := len3 e; exact ⟨a, b, c, rfl⟩
theorem siz4 (h : sizB 4 d = true) : ∃ a b c e, d = .tup [a, b, c, e] := by
  obtain ⟨ds, rfl, e⟩ := siz_tup h; obtain ⟨a, b, c, f, rfl⟩ := len4 e; exact ⟨a, b, c, f, rfl⟩
theorem an2 {a b : D} (h : An (.tup [a, b])) : An a ∧ An b := ⟨h.mem a (by simp), h.mem b (by simp)⟩
theorem an3 {a b c : D} (h : An (.tup [a, b, c])) : An a ∧ An b ∧ An c := ⟨h.mem a (by simp), h.mem b (by simp), h.mem c (by simp)⟩
theorem an4 {a b c e : D} (h : An (.tup [a, b, c, e])) : An a ∧ An b ∧ An c ∧ An e := ⟨h.mem a (by simp), h.mem b (by simp), h.mem c (by simp), h.mem e (by simp)⟩
theorem dg_no (h2 : sizB 2 d = false) (h3 : sizB 3 d = false) : dgB d = false := by
  cases d with
  | tup ds =>
    match ds with
    | [] => rfl
    | [_] => rfl
    | [_, _] => cases h2
    | [_, _, _] => cases h3
    | _ :: _ :: _ :: _ :: _ => rfl
  | _ => rfl
theorem ar_no (h3 : sizB 3 d = false) : arB d = false := by
  cases d with
  | tup ds =>
    match ds with
    | [] => rfl
    | [_] => rfl
    | [_, _] => rfl
    | [_, _, _] => cases h3
    | _ :: _ :: _ :: _ :: _ => rfl
  | _ => rfl
theorem row_no (h3 : sizB 4 d = false) : rowB d = false := by
  cases d with
  | tup ds =>
    match ds with
    | [] => rfl
    | [_] => rfl
    | [_, _] => rfl
    | [_, _, _] => rfl
    | [_, _, _, _] => cases h3
    | _ :: _ :: _ :: _ :: _ :: _ => rfl
  | _ => rfl
theorem pt_shp : (D.tup [.str "put", .str "take"]).shp = true := by decide +kernel
theorem qbc_shp : (D.tup [.str "queue", .str "bag", .str "call"]).shp = true := by decide +kernel
theorem do_shp' : (D.str "do").shp = true := by decide +kernel
theorem eqv_comm_s {w : Str} {d : D} : (D.str w).eqv d = isS w d := by
  cases d <;> simp [D.eqv, D.py, PyData.eqv, isS]
  exact Bool.beq_comm
theorem any_pt {a : D} : ([D.str "put", .str "take"].any fun z => z.eqv a) = (isS "put" a || isS "take" a) := by
  simp only [List.any_cons, List.any_nil, Bool.or_false, eqv_comm_s]
theorem any_form {a : D} : ([D.str "queue", .str "bag", .str "call"].any fun z => z.eqv a) = formB a := by
  simp only [List.any_cons, List.any_nil, Bool.or_false, eqv_comm_s, formB]
theorem form_str {a : D} (h : (match a with | .str _ => true | _ => false) = false) : formB a = false := by
  cases a with
  | str _ => cases h
  | _ => rfl
theorem spec_is_form (h : An d) (k : Q (.bl (formB d)) st) : wp (m_is_form [d]) Q st := by
  refine w_run' [.val d] rfl ?_
  unfold s_is_form
  cases d with
  | frz _ => exact h.elim
  | ref _ => exact h.elim
  | str x =>
    subst_eqs
    refine w_in rfl h.shp qbc_shp ?_
    rw [any_form]
    subst_eqs
    exact k
  | _ =>
    subst_eqs
    exact k
theorem spec_is_doing (h : An d) (k : Q (.bl (dgB d)) st) : wp (m_is_doing [d]) Q st := by
  refine w_run' [.val d] rfl ?_
  unfold s_is_doing
  subst_eqs
  refine ⟨rfl, spec_is_row (n := 2) h ?_⟩
  cases h2 : sizB 2 d with
  | true =>
    obtain ⟨a, b, rfl⟩ := siz2 h2
    obtain ⟨ha, hb⟩ := an2 h
    subst_eqs
    refine w_ixT at0 ?_
    subst_eqs
    refine w_eq ha.shp do_shp' ?_
    rw [eqv_isS]
    have k : Q (.bl (isS "do" a && nameB b)) st := k
    refine k_bl (k_if (fun e => ?_) fun e => ?_)
    · rw [e, Bool.true_and] at k
      subst_eqs
      refine w_ixT at1 ?_
      subst_eqs
      refine ⟨rfl, spec_is_name hb ?_⟩
      subst_eqs
      exact k
    · rw [e, Bool.false_and] at k
      subst_eqs
      exact k
  | false =>
    subst_eqs
    refine ⟨rfl, spec_is_row (n := 3) h ?_⟩
    cases h3 : sizB 3 d with
    | true =>
      obtain ⟨a, b, c, rfl⟩ := siz3 h3
      obtain ⟨ha, hb, hc⟩ := an3 h
      subst_eqs
      refine w_ixT at0 ?_
      subst_eqs
      refine ⟨two_ok, w_in rfl ha.shp pt_shp ?_⟩
      rw [any_pt]
      have k : Q (.bl ((isS "put" a || isS "take" a) && (nameB b && nameB c))) st := k
      refine k_bl (k_if (fun e => ?_) fun e => ?_)
      · rw [e, Bool.true_and] at k
        subst_eqs
        refine w_ixT at1 ?_
        subst_eqs
        refine ⟨rfl, spec_is_name hb ?_⟩
        refine k_bl (k_if (fun e => ?_) fun e => ?_)
        · rw [e, Bool.true_and] at k
          subst_eqs
          refine w_ixT at2 ?_
          subst_eqs
          refine ⟨rfl, spec_is_name hc ?_⟩
          subst_eqs
          exact k
        · rw [e, Bool.false_and] at k
          subst_eqs
          exact k
      · rw [e, Bool.false_and] at k
        subst_eqs
        exact k
    | false =>
      subst_eqs
      rw [dg_no h2 h3] at k
      exact k
theorem spec_ldoing (h : An d) (k : Q (.bl (dgB d)) st) : wp (m__law_is_doing [d]) Q st := by
  refine w_run' [.val d] rfl ?_
  unfold s__law_is_doing
  subst_eqs
  refine ⟨rfl, spec_sized (n := 2) h ?_⟩
  cases h2 : sizB 2 d with
  | true =>
    obtain ⟨a, b, rfl⟩ := siz2 h2
    obtain ⟨ha, hb⟩ := an2 h
    subst_eqs
    refine w_ixT at0 ?_
    subst_eqs
    refine w_eq ha.shp do_shp' ?_
    rw [eqv_isS]
    have k : Q (.bl (isS "do" a && nameB b)) st := k
    refine k_bl (k_if (fun e => ?_) fun e => ?_)
    · rw [e, Bool.true_and] at k
      subst_eqs
      refine w_ixT at1 ?_
      subst_eqs
      refine ⟨rfl, spec_lname hb ?_⟩
      subst_eqs
      exact k
    · rw [e, Bool.false_and] at k
      subst_eqs
      exact k
  | false =>
    subst_eqs
    refine ⟨rfl, spec_sized (n := 3) h ?_⟩
    cases h3 : sizB 3 d with
    | true =>
      obtain ⟨a, b, c, rfl⟩ := siz3 h3
      obtain ⟨ha, hb, hc⟩ := an3 h
      subst_eqs
      refine w_ixT at0 ?_
      subst_eqs
      refine ⟨two_ok, w_notIn rfl ha.shp pt_shp ?_⟩
      rw [any_pt]
      have k : Q (.bl ((isS "put" a || isS "take" a) && (nameB b && nameB c))) st := k
      refine k_bl ?_
      cases e : (isS "put" a || isS "take" a) with
      | true =>
        rw [e, Bool.true_and] at k
        subst_eqs
        refine w_ixT at1 ?_
        subst_eqs
        refine ⟨rfl, spec_lname hb ?_⟩
        refine k_bl (k_if (fun e => ?_) fun e => ?_)
        · rw [e, Bool.true_and] at k
          subst_eqs
          refine w_ixT at2 ?_
          subst_eqs
          refine ⟨rfl, spec_lname hc ?_⟩
          subst_eqs
          exact k
        · rw [e, Bool.false_and] at k
          subst_eqs
          exact k
      | false =>
        rw [e, Bool.false_and] at k
        subst_eqs
        exact k
    | false =>
      subst_eqs
      rw [dg_no h2 h3] at k
      exact k
theorem spec_is_arrow (h : An d) (k : Q (.bl (arB d)) st) : wp (m_is_arrow [d]) Q st := by
  refine w_run' [.val d] rfl ?_
  unfold s_is_arrow
  subst_eqs
  refine ⟨rfl, spec_is_row (n := 3) h ?_⟩
  cases h3 : sizB 3 d with
  | true =>
    obtain ⟨a, b, c, rfl⟩ := siz3 h3
    obtain ⟨ha, hb, hc⟩ := an3 h
    have k : Q (.bl (numB a && (dgB b && numB c))) st := k
    subst_eqs
    refine w_ixT at0 ?_
    subst_eqs
    refine ⟨rfl, spec_is_number ha ?_⟩
    refine k_bl (k_if (fun e => ?_) fun e => ?_)
    · rw [e, Bool.true_and] at k
      subst_eqs
      refine w_ixT at1 ?_
      subst_eqs
      refine ⟨rfl, spec_is_doing hb ?_⟩
      refine k_bl (k_if (fun e => ?_) fun e => ?_)
      · rw [e, Bool.true_and] at k
        subst_eqs
        refine w_ixT at2 ?_
        subst_eqs
        refine ⟨rfl, spec_is_number hc ?_⟩
        subst_eqs
        exact k
      · rw [e, Bool.false_and] at k
        subst_eqs
        exact k
    · rw [e, Bool.false_and] at k
      subst_eqs
      exact k
  | false =>
    subst_eqs
    rw [ar_no h3] at k
    exact k
theorem spec_larrow (h : An d) (k : Q (.bl (arB d)) st) : wp (m__law_is_arrow [d]) Q st := by
  refine w_run' [.val d] rfl ?_
  unfold s__law_is_arrow
  subst_eqs
  refine ⟨rfl, spec_sized (n := 3) h ?_⟩
  cases h3 : sizB 3 d with
  | true =>
    obtain ⟨a, b, c, rfl⟩ := siz3 h3
    obtain ⟨ha, hb, hc⟩ := an3 h
    have k : Q (.bl (numB a && (dgB b && numB c))) st := k
    subst_eqs
    refine w_ixT at1 ?_
    subst_eqs
    refine ⟨rfl, spec_ldoing hb ?_⟩
    cases e : dgB b with
    | true =>
      rw [e, Bool.true_and] at k
      subst_eqs
      refine w_ixT at0 ?_
      subst_eqs
      refine ⟨rfl, spec_lnum ha ?_⟩
      refine k_bl (k_if (fun e => ?_) fun e => ?_)
      · rw [e, Bool.true_and] at k
        subst_eqs
        refine w_ixT at2 ?_
        subst_eqs
        refine ⟨rfl, spec_lnum hc ?_⟩
        subst_eqs
        exact k
      · rw [e, Bool.false_and] at k
        subst_eqs
        exact k
    | false =>
      rw [e, Bool.false_and, Bool.and_false] at k
      subst_eqs
      exact k
  | false =>
    subst_eqs
    rw [ar_no h3] at k
    exact k
theorem spec_is_row4 (h : An d) (k : Q (.bl (rowB d)) st) : wp (m_is_channel_row [d]) Q st := by
  refine w_run' [.val d, .no] rfl ?_
  unfold s_is_channel_row
  subst_eqs
  refine ⟨rfl, spec_is_row (n := 4) h ?_⟩
  cases h4 : sizB 4 d with
  | true =>
    obtain ⟨a, b, c, f, rfl⟩ := siz4 h4
    obtain ⟨ha, hb, hc, hf⟩ := an4 h
    have k : Q (.bl ((nameB a && (nameB b && nameB c)) && formB f)) st := k
    subst_eqs
    have ec : cutD [a, b, c, f] none (some 3) = [a, b, c] := rfl
    rw [ec]
    refine ⟨_, rfl, ?_⟩
    refine lc_self (fun x => .bl (nameB x)) _ (fun x hx => ⟨_, set_nm (by simp [wipeE]), fun Q hQ => ?_⟩) ?_
    · subst_eqs
      refine ⟨rfl, spec_is_name ?_ hQ⟩
      simp only [List.mem_cons, List.not_mem_nil, or_false] at hx
      rcases hx with rfl | rfl | rfl <;> assumption
    · refine w_all ?_
      have e3 : ([a, b, c].all nameB) = (nameB a && (nameB b && nameB c)) := by simp [List.all_cons]
      rw [e3]
      refine k_bl (k_if (fun e => ?_) fun e => ?_)
      · rw [e, Bool.true_and] at k
        subst_eqs
        refine w_ixT at3 ?_
        subst_eqs
        refine ⟨rfl, spec_is_form hf ?_⟩
        subst_eqs
        exact k
      · rw [e, Bool.false_and] at k
        subst_eqs
        exact k
  | false =>
    subst_eqs
    rw [row_no h4] at k
    exact k
theorem getD_eq {ns : List Int} {j : Nat} (h : j < ns.length) : ns.getD j 0 = ns[j] := by
  rw [List.getD_eq_getElem?_getD, List.getElem?_eq_getElem h]; rfl
theorem w_rangeP {m : Nat} {A : List D → Sto → Prop} {z : Int} (hz : z.toNat = m) (h0 : -1 ≤ z) (h : z ≤ 1000000) (k : A ((List.range m).map fun (i : Nat) => D.int i) st) : wp (rangeL 0 z) A st := by
  refine w_range (by omega) (by omega) (small2 (by omega)) ?_
  rw [hz]; exact k
theorem spec_asc {es : List Int} (hl : es.length ≤ 600000) (q : Q (.bl (ascB es)) st) : wp (m_ascends [.tup (es.map D.int)]) Q st := by
  refine w_run' [.val (.tup (es.map D.int)), .no] rfl ?_
  unfold s_ascends
  subst_eqs
  refine w_int2 rfl ?_
  refine ⟨_, rfl, ?_⟩
  refine w_rangeP (m := es.length - 1) (by rw [List.length_map]; omega) (by rw [List.length_map]; omega) (by rw [List.length_map]; omega) ?_
  refine lc_mp (fun (i : Nat) => D.int i) (fun j => .bl (decide (es.getD j 0 < es.getD (j + 1) 0))) _ (fun j hj => ⟨_, set_nm (by simp [wipeE]), fun Q hQ => ?_⟩) ?_
  · have hj : j + 1 < es.length := by
      have := List.mem_range.mp hj
      omega
    rw [getD_eq (by omega : j < es.length), getD_eq hj] at hQ
    subst_eqs
    refine w_ixT (d := .int es[j]) (atI_nat (by rw [List.getElem?_map, List.getElem?_eq_getElem (by omega)]; rfl)) ?_
    subst_eqs
    refine w_ixT (d := .int es[j + 1]) ?_ ?_
    · have e : ((j : Int) + 1) = ((j + 1 : Nat) : Int) := by omega
      rw [e]
      exact atI_nat (by rw [List.getElem?_map, List.getElem?_eq_getElem hj]; rfl)
    · subst_eqs
      exact hQ
  · refine w_all ?_
    subst_eqs
    exact q
theorem nums_ints : ∀ {ds : List D}, ds.all numB = true → ds = (ds.map intV).map D.int
  | [], _ => rfl
  | d :: ds, h => by
    rw [List.all_cons, Bool.and_eq_true] at h
    rw [List.map_cons, List.map_cons, ← nums_ints h.2]
    cases d with
    | int i => rfl
    | _ => cases h.1
theorem spec_is_ends (h : An d) (k : Q (.bl (endsB d)) st) : wp (m_is_number_set [d]) Q st := by
  refine w_run' [.val d, .no] rfl ?_
  unfold s_is_number_set
  cases d with
  | frz _ => exact h.elim
  | ref _ => exact h.elim
  | tup ds =>
    have k : Q (.bl (ds.all numB && ascB (ds.map intV))) st := k
    subst_eqs
    refine ⟨_, rfl, ?_⟩
    refine lc_self (fun x => .bl (numB x)) _ (fun x hx => ⟨_, set_nm (by simp [wipeE]), fun Q hQ => ?_⟩) ?_
    · subst_eqs
      exact ⟨rfl, spec_is_number (h.mem x hx) hQ⟩
    · refine w_all ?_
      cases e : ds.all numB with
      | true =>
        rw [e, Bool.true_and] at k
        subst_eqs
        have hl := h.len
        rw [nums_ints e] at hl ⊢
        refine ⟨rfl, spec_asc (by simp at hl ⊢; omega) ?_⟩
        subst_eqs
        exact k
      | false =>
        rw [e, Bool.false_and] at k
        subst_eqs
        exact k
  | _ =>
    subst_eqs
    exact k
/-- range(1, n) -/
theorem w_iR2 {m : Nat} {A : List D → Sto → Prop} {ga : En → M (List D)} {ρ : En} (hm : m ≤ 100000) (h : wp (ga ρ) (fun ds s => ds = [.int 1, .int (m : Int)] ∧ A ((List.range (m - 1)).map fun (i : Nat) => D.int ((i + 1 : Nat) : Int)) s) st) : wp (iRange2 ga ρ) A st := by
  unfold iRange2
  rw [wp_bind]
  refine wp_mono h fun ds s ⟨e, k⟩ => ?_
  subst e
  show wp (rangeL 1 (m : Int)) A s
  have e1 : ((m : Int) - 1).toNat = m - 1 := by omega
  have z1 : (0 : Int) ≤ m := by omega
  have z2 : (m : Int) ≤ 100000 := by omega
  generalize (m : Int) = z at e1 z1 z2
  have z3 : -(2 ^ 62) ≤ z := by omega
  have z4 : z < 2 ^ 62 := by omega
  have z5 : -(2 ^ 62) ≤ (1 : Int) := by omega
  have z6 : (1 : Int) < 2 ^ 62 := by omega
  have z7 : (z - 1).toNat ≤ sizeLine := by rw [e1]; exact small2 (by omega)
  have er : rangeL 1 z s = .ok ((List.range (z - 1).toNat).map fun (i : Nat) => D.int (1 + (i : Int))) s := if_pos ⟨z5, z6, z3, z4, z7⟩
  refine wp_of er ?_
  rw [e1]
  have e : (List.range (m - 1)).map (fun (i : Nat) => D.int (1 + (i : Int))) = (List.range (m - 1)).map fun (i : Nat) => D.int ((i + 1 : Nat) : Int) := List.map_congr_left fun i _ => by
    have : (1 + (i : Int)) = ((i + 1 : Nat) : Int) := by omega
    rw [this]
  rw [e]; exact k
theorem spec_lends (h : An d) (k : Q (.bl (endsB d)) st) : wp (m__law_is_ends [d]) Q st := by
  refine w_run' [.val d, .no, .no] rfl ?_
  unfold s__law_is_ends
  cases d with
  | frz _ => exact h.elim
  | ref _ => exact h.elim
  | tup ds =>
    have k2 : Q (.bl (ds.all numB && ascB (ds.map intV))) st := k
    clear k
    subst_eqs
    refine ⟨_, rfl, ?_⟩
    refine lc_selfF (fun x => !numB x) (fun x => x) _ (fun x hx => ⟨_, set_nm (by simp [wipeE]), fun T hT => ?_, fun _ Q hQ => ?_⟩) ?_
    · subst_eqs
      refine ⟨rfl, spec_lnum (h.mem x hx) ?_⟩
      exact k_bl hT
    · subst_eqs
      exact hQ
    · subst_eqs
      rw [List.map_id']
      refine ⟨by decide, w_ne (shp_lst (k := 60) fun x hx => va_shp (h.mem x (List.mem_filter.mp hx).1)).shp shp_nil ?_⟩
      rw [eqv_ll, eqvL_nil, filter_nil]
      cases e : ds.all numB with
      | true =>
        rw [e, Bool.true_and] at k2
        subst_eqs
        have hl := h.len
        have ei := nums_ints e
        generalize ds.map intV = es at ei k2
        subst ei
        rw [List.length_map] at hl
        refine w_iR2 (m := es.length) (by omega) ?_
        subst_eqs
        rw [List.length_map]
        refine ⟨rfl, ?_⟩
        refine lc_fm (fun (i : Nat) => D.int ((i + 1 : Nat) : Int)) (fun j => !decide (es.getD j 0 < es.getD (j + 1) 0)) (fun (i : Nat) => D.int ((i + 1 : Nat) : Int)) _ (fun j hj => ⟨_, set_nm (by simp [wipeE]), fun T hT => ?_, fun _ Q hQ => ?_⟩) ?_
        · have hj : j + 1 < es.length := by
            have := List.mem_range.mp hj
            omega
          rw [getD_eq (by omega : j < es.length), getD_eq hj] at hT
          subst_eqs
          refine w_int2 rfl ?_
          refine w_ixT (d := .int es[j]) ?_ ?_
          · have e : (((j + 1 : Nat) : Int) - 1) = ((j : Nat) : Int) := by omega
            rw [e]
            exact atI_nat (by rw [List.getElem?_map, List.getElem?_eq_getElem (by omega)]; rfl)
          · subst_eqs
            refine w_ixT (d := .int es[j + 1]) (atI_nat (by rw [List.getElem?_map, List.getElem?_eq_getElem hj]; rfl)) ?_
            subst_eqs
            refine k_bl ?_
            have e2 : decide (es[j + 1] ≤ es[j]) = !decide (es[j] < es[j + 1]) := by
              by_cases z : es[j] < es[j + 1]
              · rw [decide_eq_true z, decide_eq_false (by omega)]; rfl
              · rw [decide_eq_false z, decide_eq_true (by omega)]; rfl
            rw [e2]; exact hT
        · subst_eqs
          exact hQ
        · subst_eqs
          refine ⟨by decide, w_eq (shp_lst (k := 0) fun x hx => ?_).shp shp_nil ?_⟩
          · obtain ⟨j, _, rfl⟩ := List.mem_map.mp hx
            exact shp_int
          · rw [eqv_ll, eqvL_nil, List.isEmpty_map, filter_nil]
            subst_eqs
            exact k2
      | false =>
        rw [e, Bool.false_and] at k2
        subst_eqs
        exact k2
  | _ =>
    subst_eqs
    exact k
end
end LK

set_option linter.all false
set_option maxRecDepth 100000
set_option maxHeartbeats 4000000
/-! V3: the first that is wrong; channels held against their rules. -/
namespace LK
open PySem PySem.Spec L2 PL PG
section
variable {Z : Exn → Sto → Prop} {Q : Fl × En → Sto → Prop}
end
/-! ### the data of right rows -/
inductive Dg where
  | dd (a : Str)
  | cm (w c a : Str)
  deriving DecidableEq
def Dg.d : Dg → D
  | .dd a => .tup [.str "do", .str a]
  | .cm w c a => .tup [.str w, .str c, .str a]
structure Aw where
  s : Int
  g : Dg
  e : Int
  deriving DecidableEq
def Aw.d (a : Aw) : D := .tup [.int a.s, a.g.d, .int a.e]
structure Cy where
  n : Str
  a : Str
  b : Str
  f : Str
  deriving DecidableEq
def Cy.d (c : Cy) : D := .tup [.str c.n, .str c.a, .str c.b, .str c.f]
theorem isS_eq {w : Str} {d : D} (h : isS w d = true) : d = .str w := by
  cases d with
  | str x => rw [eq_of_beq h]
  | _ => cases h
theorem name_str {d : D} (h : nameB d = true) : ∃ x, d = .str x ∧ nameS x = true := by
  cases d with
  | str x => exact ⟨x, rfl, h⟩
  | _ => cases h
theorem form_is {d : D} (h : formB d = true) : ∃ x, d = .str x := by
  cases d with
  | str x => exact ⟨x, rfl⟩
  | _ => cases h
theorem row_cy {d : D} (h : rowB d = true) : ∃ c : Cy, d = c.d ∧ nameS c.n = true ∧ nameS c.a = true ∧ nameS c.b = true ∧ formB (.str c.f) = true := by
  cases e : sizB 4 d with
  | false => rw [row_no e] at h; cases h
  | true =>
    obtain ⟨a, b, c, f, rfl⟩ := siz4 e
    have h : ((nameB a && (nameB b && nameB c)) && formB f) = true := h
    simp only [Bool.and_eq_true] at h
    obtain ⟨⟨h1, h2, h3⟩, h4⟩ := h
    obtain ⟨x, rfl, e1⟩ := name_str h1
    obtain ⟨y, rfl, e2⟩ := name_str h2
    obtain ⟨z, rfl, e3⟩ := name_str h3
    obtain ⟨u, rfl⟩ := form_is h4
    exact ⟨⟨x, y, z, u⟩, rfl, e1, e2, e3, h4⟩
def dgOk : Dg → Prop
  | .dd a => nameS a = true
  | .cm w c a => (w = "put" ∨ w = "take") ∧ nameS c = true ∧ nameS a = true
theorem dg_of {d : D} (h : dgB d = true) : ∃ g : Dg, d = g.d ∧ dgOk g := by
  cases e2 : sizB 2 d with
  | true =>
    obtain ⟨a, b, rfl⟩ := siz2 e2
    have h : (isS "do" a && nameB b) = true := h
    rw [Bool.and_eq_true] at h
    obtain ⟨x, rfl, e1⟩ := name_str h.2
    rw [isS_eq h.1]
    exact ⟨.dd x, rfl, e1⟩
  | false =>
    cases e3 : sizB 3 d with
    | false => rw [dg_no e2 e3] at h; cases h
    | true =>
      obtain ⟨a, b, c, rfl⟩ := siz3 e3
      have h : ((isS "put" a || isS "take" a) && (nameB b && nameB c)) = true := h
      simp only [Bool.and_eq_true, Bool.or_eq_true] at h
      obtain ⟨h1, h2, h3⟩ := h
      obtain ⟨x, rfl, e1⟩ := name_str h2
      obtain ⟨y, rfl, e4⟩ := name_str h3
      rcases h1 with h1 | h1 <;> rw [isS_eq h1]
      · exact ⟨.cm "put" x y, rfl, .inl rfl, e1, e4⟩
      · exact ⟨.cm "take" x y, rfl, .inr rfl, e1, e4⟩
theorem ar_of {d : D} (h : arB d = true) : ∃ a : Aw, d = a.d ∧ dgOk a.g := by
  cases e3 : sizB 3 d with
  | false => rw [ar_no e3] at h; cases h
  | true =>
    obtain ⟨a, b, c, rfl⟩ := siz3 e3
    have h : (numB a && (dgB b && numB c)) = true := h
    simp only [Bool.and_eq_true] at h
    obtain ⟨h1, h2, h3⟩ := h
    obtain ⟨g, rfl, hg⟩ := dg_of h2
    cases a with
    | int i =>
      cases c with
      | int j => exact ⟨⟨i, g, j⟩, rfl, hg⟩
      | _ => cases h3
    | _ => cases h1
theorem nameS_ok {x : Str} (h : nameS x = true) : PyData.strOk x = true := by
  unfold nameS at h
  simp only [Bool.and_eq_true, List.all_eq_true] at h
  refine lw_ok fun c hc => ?_
  exact abc_sg c (of_decide_eq_true (h.2.2 c hc))
theorem nameS_shp {x : Str} (h : nameS x = true) : (D.str x).shp = true := (shp_str (nameS_ok h)).shp
/-! ### channels -/
def nmOf : D → Str
  | .tup (.str x :: _) => x
  | _ => ""
def cEnd : D → Bool
  | .tup [_, b, c, _] => b.eqv c
  | _ => false
theorem getD_get {cs : List D} {i : Nat} {c : D} (h : cs[i]? = some c) : cs.getD i .non = c := by rw [List.getD_eq_getElem?_getD, h]; rfl
theorem row_an {d : D} (h : rowB d = true) : ∃ a b c f, d = .tup [a, b, c, f] := by
  cases e : sizB 4 d with
  | false => rw [row_no e] at h; cases h
  | true => exact siz4 e
section
variable {cs : List D} {i : Nat} {st : Sto} {Z : Exn → Sto → Prop} {Q : D → Sto → Prop}
theorem pred_cast (hi : 0 < i) : ((i : Int) - 1) = ((i - 1 : Nat) : Int) := by omega
end
end LK

set_option linter.all false
set_option maxRecDepth 100000
set_option maxHeartbeats 4000000
/-! V4: the law's reading of channels. -/
namespace LK
open PySem PySem.Spec L2 PL PG
section
variable {ga : En → M (List D)} {ρ : En} {A : List D → Sto → Prop} {st : Sto}
end
theorem three_ok : 3 ≤ sizeLine := by decide
theorem not_t {b : Bool} (h : (!b) = true) : b = false := by cases b <;> first | rfl | cases h
theorem not_f {b : Bool} (h : (!b) = false) : b = true := by cases b <;> first | rfl | cases h
theorem form_no {x : D} (h : (!([D.str "queue", .str "bag", .str "call"].any fun z => z.eqv x)) = true) : formB x = false := by
  rw [any_form] at h; simpa using h
section
variable {cs : List D} {i : Nat} {st : Sto} {Q : D → Sto → Prop}
theorem row_parts {a b c f : D} : rowB (.tup [a, b, c, f]) = ((nameB a && (nameB b && nameB c)) && formB f) := rfl
end
end LK

set_option linter.all false
set_option maxRecDepth 100000
set_option maxHeartbeats 4000000
/-! V5: right channels; who may do what on them. -/
namespace LK
open PySem PySem.Spec L2 PL PG
structure CyOk (c : Cy) : Prop where
  n : nameS c.n = true
  a : nameS c.a = true
  b : nameS c.b = true
  f : formB (.str c.f) = true
  ne : c.a ≠ c.b
theorem ltS_trans {x y z : Str} (h1 : ltS x y = true) (h2 : ltS y z = true) : ltS x z = true := by
  unfold ltS at *
  exact decide_eq_true (List.lt_trans (of_decide_eq_true h1) (of_decide_eq_true h2))
theorem ltS_ne {x y : Str} (h : ltS x y = true) : x ≠ y := by
  rintro rfl
  unfold ltS at h
  exact absurd (of_decide_eq_true h) (List.lt_irrefl _)
/-- names that rise from one to the next -/
theorem rise_pair {α : Type} (nm : α → Str) : ∀ (xs : List α), (∀ i (h : i + 1 < xs.length), ltS (nm xs[i]) (nm xs[i + 1]) = true) → xs.Pairwise fun a b => ltS (nm a) (nm b) = true
  | [], _ => List.Pairwise.nil
  | [x], _ => List.pairwise_singleton _ _
  | x :: y :: xs, h => by
    have ih := rise_pair nm (y :: xs) fun i hi => h (i + 1) (by simp only [List.length_cons] at hi ⊢; omega)
    refine List.pairwise_cons.mpr ⟨fun z hz => ?_, ih⟩
    have h0 : ltS (nm x) (nm y) = true := h 0 (by simp)
    rcases List.mem_cons.mp hz with rfl | hz
    · exact h0
    · exact ltS_trans h0 ((List.pairwise_cons.mp ih).1 z hz)
def ChsOk (cs : List Cy) : Prop := (∀ c ∈ cs, CyOk c) ∧ cs.Pairwise fun a b => ltS a.n b.n = true
theorem map_of {α : Type} (f : α → D) (P : α → Prop) : ∀ (ds : List D), (∀ i, i < ds.length → ∃ a, ds.getD i .non = f a ∧ P a) → ∃ as : List α, ds = as.map f ∧ ∀ a ∈ as, P a
  | [], _ => ⟨[], rfl, fun _ h => by cases h⟩
  | d :: ds, h => by
    obtain ⟨a, e, pa⟩ := h 0 (by simp)
    obtain ⟨as, e2, pas⟩ := map_of f P ds fun i hi => h (i + 1) (by simpa using hi)
    refine ⟨a :: as, by rw [List.map_cons, ← e2]; exact congrArg (· :: ds) e, fun x hx => ?_⟩
    rcases List.mem_cons.mp hx with rfl | hx
    · exact pa
    · exact pas x hx
def kvOf (cs : List Cy) : List (Key × D) := cs.map fun c => (.inr c.n, .tup [.str c.a, .str c.b])
def side (w : Str) (c : Cy) : Str := if (w == "put") = true then c.a else c.b
def ownC (cs : List Cy) (nm w c : Str) : Bool := match cs.find? fun x => x.n == c with
    | some x => nm == side w x
    | none => false
def ownB (cs : List Cy) (nm : Str) : Dg → Bool
  | .dd _ => true
  | .cm w c _ => ownC cs nm w c
theorem chs_nodup {cs : List Cy} (h : ChsOk cs) : (cs.map Cy.n).Nodup := by
  have := h.2
  rw [List.nodup_iff_pairwise_ne, List.pairwise_map]
  exact this.imp fun h => ltS_ne h
theorem val_kv (c : Str) : ∀ cs : List Cy, valD (.inr c) (kvOf cs) = (cs.find? fun x => x.n == c).map fun x => .tup [.str x.a, .str x.b]
  | [] => rfl
  | x :: cs => by
    show (if (Sum.inr x.n : Key) = .inr c then _ else _) = _
    by_cases h : x.n = c
    · rw [if_pos (by rw [h]), List.find?_cons_of_pos (by simp [h])]; rfl
    · rw [if_neg (fun e => h (Sum.inr.inj e)), List.find?_cons_of_neg (by simpa using h)]
      exact val_kv c cs
theorem own_any {nm : Str} {w c : Str} : ∀ {cs : List Cy}, (cs.map Cy.n).Nodup → (cs.any fun x => x.n == c && side w x == nm) = ownC cs nm w c
  | [], _ => rfl
  | x :: cs, h => by
    rw [List.map_cons, List.nodup_cons] at h
    have ih := own_any (nm := nm) (w := w) (c := c) h.2
    rw [List.any_cons]
    unfold ownC at ih ⊢
    by_cases e : x.n = c
    · have : (cs.any fun x => x.n == c && side w x == nm) = false := by
        rw [List.any_eq_false]
        intro y hy hh
        simp only [Bool.and_eq_true, beq_iff_eq] at hh
        exact h.1 (List.mem_map.mpr ⟨y, hy, hh.1.trans e.symm⟩)
      rw [this, Bool.or_false, List.find?_cons_of_pos (by simp [e])]
      simp only [e, beq_self_eq_true, Bool.true_and]
      exact Bool.beq_comm
    · rw [List.find?_cons_of_neg (by simpa using e), ← ih]
      have : (x.n == c) = false := by simpa using e
      rw [this]; simp
section
variable {st : Sto} {Q : D → Sto → Prop} {R : D → Sto → Prop} {ρ : En}
theorem w_dc {it : En → M (List D)} {p : Pt} {vs : List Nat} {tt : En → M Bool} {tk tv : En → M D} (k : wp (it ρ) (fun ds s => wp (dcL p.set tt tk tv (wipeE ρ vs) ds []) (fun kvs s' => R (.ref s'.length) (s' ++ [.dict kvs])) s) st) : wp (eDc it p vs tt tk tv ρ) R st := by
  unfold eDc
  rw [wp_bind]
  refine wp_mono k fun ds s k => ?_
  rw [wp_bind, wp_noX]
  exact wp_mono k fun kvs s' k => ⟨k⟩
theorem dc_mp {α : Type} {set : D → En → Option En} {tk tv : En → M D} (f : α → D) (key : α → Str) (val : α → D) : ∀ (xs : List α) (done : List α) {R : List (Key × D) → Sto → Prop}, (∀ x ∈ xs, ∃ ρ', set (f x) ρ = some ρ' ∧ (∀ Q : D → Sto → Prop, Q (.str (key x)) st → wp (tk ρ') Q st) ∧ (∀ Q : D → Sto → Prop, Q (val x) st → wp (tv ρ') Q st)) →
    ((done ++ xs).map key).Nodup → (done ++ xs).length ≤ 100000 → R ((done ++ xs).map fun x => (.inr (key x), val x)) st → wp (dcL set tTrue tk tv ρ (xs.map f) (done.map fun x => (.inr (key x), val x))) R st
  | [], done, R, _, _, _, k => by
    show wp (M.pure _) R st
    rw [wp_pure]
    rw [List.append_nil] at k; exact k
  | x :: xs, done, R, hs, nd, hl, k => by
    obtain ⟨ρ', e, h1, h2⟩ := hs x List.mem_cons_self
    show wp ((opt (set (f x) ρ)).bind _) R st
    rw [wp_bind, e, wp_some, wp_bind]
    refine w_true ?_
    rw [if_pos rfl, wp_bind]
    refine h1 _ ?_
    rw [wp_bind]
    refine h2 _ ?_
    rw [wp_bind]
    show wp (opt (some (Sum.inr (key x)))) _ st
    rw [wp_some, wp_guard]
    have hlen : done.length < sizeLine := Nat.lt_of_lt_of_le (by rw [List.length_append, List.length_cons] at hl; omega) (small2 (Nat.le_refl 1000000))
    refine ⟨decide_eq_true (by rw [List.length_map]; exact hlen), ?_⟩
    have hput : putD (done.map fun x => ((.inr (key x) : Key), val x)) (.inr (key x)) (val x) = (done ++ [x]).map fun x => ((.inr (key x) : Key), val x) := by
      unfold putD
      rw [if_neg, List.map_append]; rfl
      intro hh
      obtain ⟨q, hq, e⟩ := List.any_eq_true.mp hh
      obtain ⟨y, hy, rfl⟩ := List.mem_map.mp hq
      have e' : key y = key x := Sum.inr.inj (of_decide_eq_true e)
      rw [List.map_append, List.map_cons] at nd
      have := (List.nodup_append.mp nd).2.2 (key y) (List.mem_map.mpr ⟨y, hy, rfl⟩) (key x) List.mem_cons_self
      exact this e'
    rw [hput]
    refine dc_mp f key val xs (done ++ [x]) (fun z hz => hs z (List.mem_cons_of_mem _ hz)) (by rw [List.append_assoc]; exact nd) (by rw [List.append_assoc]; exact hl) ?_
    rw [List.append_assoc]; exact k
theorem spec_sides {cs : List Cy} (h : ChsOk cs) (hl : cs.length ≤ 1000) (k : Q (.ref st.length) (st ++ [.dict (kvOf cs)])) : wp (m_sides_of [.tup (cs.map Cy.d)]) Q st := by
  refine w_run' [.val (.tup (cs.map Cy.d)), .no] rfl ?_
  unfold s_sides_of
  refine w_ret (w_dc ?_)
  subst_eqs
  refine ⟨_, rfl, ?_⟩
  refine dc_mp Cy.d Cy.n (fun c => .tup [.str c.a, .str c.b]) cs [] (fun c hc => ⟨_, set_nm (by simp [wipeE]), fun Q hQ => ?_, fun Q hQ => ?_⟩) (by simpa using chs_nodup h) (by simpa using Nat.le_trans hl (by decide)) ?_
  · subst_eqs
    exact w_ixT at0 hQ
  · subst_eqs
    refine w_ixT at1 ?_
    subst_eqs
    refine w_ixT at2 ?_
    subst_eqs
    exact ⟨two_ok, hQ⟩
  · exact k
theorem put_shp : (D.str "put").shp = true := by decide +kernel
theorem pt_do {w : Str} (h : w = "put" ∨ w = "take") : (w == "do") = false := by
  rcases h with rfl | rfl <;> decide +kernel
theorem cm_shp {g : Dg} (h : dgOk g) : (match g with | .dd _ => True | .cm w c _ => (D.str w).shp = true ∧ (D.str c).shp = true) := by
  cases g with
  | dd _ => trivial
  | cm w c _ => exact ⟨by rcases h.1 with rfl | rfl <;> decide +kernel, nameS_shp h.2.1⟩
theorem w_dgS {n : Nat} {c : Str} {cs : List Cy} (hs : st[n]? = some (.dict (kvOf cs))) {x : Cy} (hf : (cs.find? fun x => x.n == c) = some x) (k : R (.tup [.str x.a, .str x.b]) st) : wp (dgM (.ref n) (.str c)) R st := by
  show wp ((dictAt n).bind fun kvs => opt (valD (.inr c) kvs)) R st
  rw [wp_bind, wp_dictAt]
  refine ⟨_, hs, ?_⟩
  rw [val_kv, hf]
  exact ⟨k⟩
theorem w_dninS {n : Nat} {c : Str} {cs : List Cy} (hs : st[n]? = some (.dict (kvOf cs))) (k : R (.bl (!(cs.find? fun x => x.n == c).isSome)) st) : wp (dinM true (.str c) (.ref n)) R st := by
  show wp ((dictAt n).bind fun kvs => PL.bl (!(valD (.inr c) kvs).isSome)) R st
  rw [wp_bind, wp_dictAt]
  refine ⟨_, hs, ?_⟩
  rw [val_kv, Option.isSome_map]
  exact ⟨k⟩
theorem spec_is_owner {n : Nat} {cs : List Cy} {nm : Str} {g : Dg} (hs : st[n]? = some (.dict (kvOf cs))) (hok : ChsOk cs) (hn : nameS nm = true) (hg : dgOk g) (k : Q (.bl (ownB cs nm g)) st) : wp (m_is_owner [.ref n, .str nm, g.d]) Q st := by
  refine w_run' [.val (.ref n), .val (.str nm), .val g.d, .no, .no] rfl ?_
  unfold s_is_owner
  have sh := cm_shp hg
  cases g with
  | dd a =>
    subst_eqs
    refine w_ixT at0 ?_
    subst_eqs
    refine w_eq do_shp' do_shp' ?_
    rw [eqv_isS]
    have : isS "do" (.str "do") = true := by decide +kernel
    rw [this]
    subst_eqs
    exact k
  | cm w c l =>
    obtain ⟨sw, sc⟩ := sh
    have dd0 : (Dg.cm w c l).d = .tup [.str w, .str c, .str l] := rfl
    rw [dd0]
    subst_eqs
    refine w_ixT at0 ?_
    subst_eqs
    refine w_eq sw do_shp' ?_
    rw [eqv_isS]
    have : isS "do" (.str w) = false := pt_do hg.1
    rw [this]
    subst_eqs
    refine w_ixT at1 ?_
    subst_eqs
    refine w_dninS hs ?_
    have k : Q (.bl (match cs.find? fun x => x.n == c with | some x => nm == side w x | none => false)) st := k
    cases ef : (cs.find? fun x => x.n == c) with
    | none =>
      rw [ef] at k
      refine k_bl (k_ifT ?_)
      subst_eqs
      exact k
    | some x =>
      rw [ef] at k
      have k : Q (.bl (nm == side w x)) st := k
      refine k_bl (k_ifF ?_)
      have hx := hok.1 x (List.mem_of_find?_eq_some ef)
      subst_eqs
      refine w_ixT at1 ?_
      refine w_dgS hs ef ?_
      refine ⟨[.val (.ref n), .val (.str nm), .val (.tup [.str w, .str c, .str l]), .val (.str x.a), .val (.str x.b)], by simp [Pt.set, setAll], ?_⟩
      subst_eqs
      refine w_ixT at0 ?_
      subst_eqs
      refine w_eq sw put_shp ?_
      rw [eqv_isS]
      refine k_bl (k_if (fun e => ?_) fun e => ?_)
      · have es : side w x = x.a := if_pos e
        rw [es] at k
        subst_eqs
        refine w_eq (nameS_shp hn) (nameS_shp hx.a) ?_
        rw [eqv_ss]
        subst_eqs
        exact k
      · have es : side w x = x.b := if_neg (by rw [show (w == "put") = false from e]; decide)
        rw [es] at k
        subst_eqs
        refine w_eq (nameS_shp hn) (nameS_shp hx.b) ?_
        rw [eqv_ss]
        subst_eqs
        exact k
theorem cys_shp {cs : List Cy} (h : ChsOk cs) (p : Cy → Bool) : (D.lst ((cs.filter p).map Cy.d)).shp = true := (shp_lst (k := 1) fun d hd => by
  obtain ⟨c, hc, rfl⟩ := List.mem_map.mp hd
  have hc := h.1 c (List.mem_filter.mp hc).1
  refine shp_tup (k := 0) fun x hx => ?_
  simp only [List.mem_cons, List.not_mem_nil, or_false] at hx
  have hf : PyData.strOk c.f = true := by
    have := hc.f
    unfold formB at this
    simp only [Bool.or_eq_true] at this
    rcases this with e | e | e <;> have := isS_eq e <;> injection this with this <;> rw [this] <;> decide +kernel
  rcases hx with rfl | rfl | rfl | rfl
  · exact shp_str (nameS_ok hc.n)
  · exact shp_str (nameS_ok hc.a)
  · exact shp_str (nameS_ok hc.b)
  · exact shp_str hf).shp
theorem isEmpty_filter {α : Type} (p : α → Bool) : ∀ xs : List α, (!(xs.filter p).isEmpty) = xs.any p
  | [] => rfl
  | x :: xs => by
    cases h : p x with
    | true => rw [List.filter_cons_of_pos h, List.any_cons, h]; rfl
    | false => rw [List.filter_cons_of_neg (by rw [h]; decide), List.any_cons, h, isEmpty_filter p xs]; rfl
end
end LK

set_option linter.all false
set_option maxRecDepth 100000
set_option maxHeartbeats 4000000
/-! V6: arrows of a party: program and law. -/
namespace LK
open PySem PySem.Spec L2 PL PG
/-! ### arrows as keys -/
def nkG : Dg → NestedKey
  | .dd a => .tup [.text "do", .text a]
  | .cm w c a => .tup [.text w, .text c, .text a]
def nkA (a : Aw) : NestedKey := .tup [.num a.s, nkG a.g, .num a.e]
theorem nk_aw (a : Aw) : nkD a.d = some (nkA a) := by
  obtain ⟨s, g, e⟩ := a
  cases g <;> rfl
theorem nkG_inj {g h : Dg} (e : nkG g = nkG h) : g = h := by
  cases g with
  | dd a =>
    cases h with
    | dd b => injection e with e; injection e with _ e; injection e with e _; injection e with e; rw [e]
    | cm w c l => injection e with e; injection e with _ e; injection e with _ e; cases e
  | cm w c l =>
    cases h with
    | dd b => injection e with e; injection e with _ e; injection e with _ e; cases e
    | cm w' c' l' =>
      injection e with e
      injection e with e1 e; injection e with e2 e; injection e with e3 _
      injection e1 with e1; injection e2 with e2; injection e3 with e3
      rw [e1, e2, e3]
theorem nkA_inj {a b : Aw} (e : nkA a = nkA b) : a = b := by
  obtain ⟨s, g, t⟩ := a
  obtain ⟨s', g', t'⟩ := b
  unfold nkA at e
  injection e with e
  injection e with e1 e; injection e with e2 e; injection e with e3 _
  injection e1 with e1; injection e3 with e3
  have e1 : s = s' := e1
  have e3 : t = t' := e3
  have e2 : g = g' := nkG_inj e2
  rw [e1, e2, e3]
theorem key_aw (a : Aw) : keyN a.d = some (nkA a) := by
  have e : keyN a.d = (nkD a.d).bind fun k => if k.depth ≤ 8 then some k else none := rfl
  rw [e, nk_aw]
  show (if (nkA a).depth ≤ 8 then some (nkA a) else none) = _
  rw [if_pos]
  obtain ⟨s, g, t⟩ := a
  cases g <;> simp [nkA, nkG, NestedKey.depth, NestedKey.depthAll]
theorem str_beq (a b : Str) : (a == b) = decide (a = b) := by
  rw [Bool.eq_iff_iff]; simp
theorem eqv_dg (g h : Dg) : g.d.eqv h.d = decide (g = h) := by
  cases g with
  | dd a =>
    cases h with
    | dd b =>
      show (D.tup _).eqv (.tup _) = _
      rw [eqv_tt]
      simp [eqvL, eqv_ss, str_beq]
    | cm w c l =>
      show (D.tup _).eqv (.tup _) = _
      rw [eqv_tt]
      simp [eqvL, eqv_ss, str_beq]
  | cm w c l =>
    cases h with
    | dd b =>
      show (D.tup _).eqv (.tup _) = _
      rw [eqv_tt]
      simp [eqvL, eqv_ss, str_beq]
    | cm w' c' l' =>
      show (D.tup _).eqv (.tup _) = _
      rw [eqv_tt]
      simp [eqvL, eqv_ss, str_beq]
theorem eqv_aw (a b : Aw) : a.d.eqv b.d = decide (a = b) := by
  obtain ⟨s, g, t⟩ := a
  obtain ⟨s', g', t'⟩ := b
  show (D.tup _).eqv (.tup _) = _
  rw [eqv_tt]
  simp only [eqvL, eqv_ii, eqv_dg, Bool.and_true]
  rw [Bool.eq_iff_iff]
  simp
theorem any_aw {aw : List Aw} {a : Aw} : ((aw.map Aw.d).any fun z => z.eqv a.d) = decide (a ∈ aw) := by
  rw [List.any_map, Bool.eq_iff_iff, List.any_eq_true]
  simp only [Function.comp, eqv_aw, decide_eq_true_eq]
  exact ⟨fun ⟨x, h1, h2⟩ => h2 ▸ h1, fun h => ⟨a, h, rfl⟩⟩
theorem aw_shp {a : Aw} (h : dgOk a.g) : Shp 2 a.d := by
  refine shp_tup (k := 1) fun x hx => ?_
  simp only [List.mem_cons, List.not_mem_nil, or_false] at hx
  rcases hx with rfl | rfl | rfl
  · exact shp_int.mono
  · cases e : a.g with
    | dd l =>
      rw [e] at h
      refine shp_tup (k := 0) fun x hx => ?_
      simp only [List.mem_cons, List.not_mem_nil, or_false] at hx
      rcases hx with rfl | rfl
      · exact shp_str (by decide +kernel)
      · exact shp_str (nameS_ok h)
    | cm w c l =>
      rw [e] at h
      refine shp_tup (k := 0) fun x hx => ?_
      simp only [List.mem_cons, List.not_mem_nil, or_false] at hx
      rcases hx with rfl | rfl | rfl
      · rcases h.1 with rfl | rfl <;> exact shp_str (by decide +kernel)
      · exact shp_str (nameS_ok h.2.1)
      · exact shp_str (nameS_ok h.2.2)
  · exact shp_int.mono
section
variable {st : Sto} {R : D → Sto → Prop} {Q : Fl × En → Sto → Prop} {ρ : En}
end
section
variable {st : Sto} {Z : Exn → Sto → Prop} {Q : D → Sto → Prop}
end
end LK

set_option linter.all false
set_option maxRecDepth 100000
set_option maxHeartbeats 4000000
/-! V7: parties: program and law. -/
namespace LK
open PySem PySem.Spec L2 PL PG
def pRow : D → Bool
  | .tup [a, _, c] => nameB a && tupB c
  | _ => false
section
variable {ps : List D} {i : Nat} {st : Sto} {Z : Exn → Sto → Prop} {Q : D → Sto → Prop}
/-! ### the law's reading -/
theorem cut_take {xs : List D} {m : Nat} (hm : m ≤ xs.length) : cutD xs none (some ((m : Nat) : Int)) = xs.take m := by
  unfold cutD
  rw [HT.sIx_none, List.drop_zero, Nat.sub_zero, HT.sIx_nat, Nat.min_eq_left hm]
end
end LK

set_option linter.all false
set_option maxRecDepth 100000
set_option maxHeartbeats 4000000
/-! V8: the whole judgement: program and law. -/
namespace LK
open PySem PySem.Spec L2 PL PG
def cyOf : D → Cy
  | .tup [.str n, .str a, .str b, .str f] => ⟨n, a, b, f⟩
  | _ => ⟨"", "", "", ""⟩
theorem cyOf_d (cy : List Cy) : (cy.map Cy.d).map cyOf = cy := by
  rw [List.map_map]
  have : (cyOf ∘ Cy.d) = id := by funext c; rfl
  rw [this, List.map_id]
theorem any_names (x : Str) : ∀ ns : List Str, ((ns.map D.str).any fun z => z.eqv (.str x)) = ns.contains x
  | [] => rfl
  | n :: ns => by
    rw [List.map_cons, List.any_cons, any_names x ns, eqv_ss, List.contains_cons, Bool.beq_comm]
theorem names_shp {ns : List Str} (h : ∀ n ∈ ns, nameS n = true) : (D.lst (ns.map D.str)).shp = true := (shp_lst (k := 0) fun d hd => by
  obtain ⟨n, hn, rfl⟩ := List.mem_map.mp hd
  exact shp_str (nameS_ok (h n hn))).shp
section
variable {ps : List D} {cs : List Cy} {st : Sto} {Z : Exn → Sto → Prop} {Q : D → Sto → Prop}
def pairB : D → Bool
  | .tup [.tup _, .tup _] => true
  | _ => false
theorem spec_is_pair {d : D} (h : An d) (k : Q (.bl (pairB d)) st) : wp (m_is_pair_of_tuples [d]) Q st := by
  refine w_run' [.val d] rfl ?_
  unfold s_is_pair_of_tuples
  subst_eqs
  refine ⟨rfl, spec_is_row (n := 2) h ?_⟩
  cases h2 : sizB 2 d with
  | false =>
    have : pairB d = false := by
      unfold pairB
      split
      · cases h2
      · rfl
    rw [this] at k
    subst_eqs
    exact k
  | true =>
    obtain ⟨a, b, rfl⟩ := siz2 h2
    obtain ⟨ha, hb⟩ := an2 h
    subst_eqs
    refine w_ixT at0 ?_
    refine wi_tup ha ?_
    have e : pairB (.tup [a, b]) = (tupB a && tupB b) := by
      cases a <;> cases b <;> rfl
    rw [e] at k
    cases ea : tupB a with
    | false =>
      rw [ea] at k
      subst_eqs
      exact k
    | true =>
      rw [ea] at k
      subst_eqs
      refine w_ixT at1 ?_
      refine wi_tup hb ?_
      subst_eqs
      exact k
end
end LK

set_option linter.all false
set_option maxRecDepth 100000
set_option maxHeartbeats 4000000
/-! T14: forms changed, calls made. -/
namespace LK
open PySem PySem.Spec L2 PL PG
theorem eqv_sym {y : Str} {d : D} : (D.str y).eqv d = d.eqv (.str y) := by rw [eqv_comm_s, eqv_isS]
section
variable {ps cs ns : List D} {name form d : D} {x : Str} {st : Sto} {Q : D → Sto → Prop} {Z : Exn → Sto → Prop}
/-! ### one channel's form -/
/-! ### several calls -/
def strV : D → Str
  | .str x => x
  | _ => ""
def ascS (xs : List Str) : Bool := (List.range (xs.length - 1)).all fun k => ltS (xs.getD k "") (xs.getD (k + 1) "")
theorem getS {xs : List Str} {j : Nat} (h : j < xs.length) : xs.getD j "" = xs[j] := by
  rw [List.getD_eq_getElem?_getD, List.getElem?_eq_getElem h]; rfl
theorem w_ltSS {x y : Str} (k : Q (.bl (ltS x y)) st) : wp (ltM (.str x) (.str y)) Q st := by first | exact k | exact ⟨k⟩
theorem w_geSS {x y : Str} (k : Q (.bl (!ltS x y)) st) : wp (geM (.str x) (.str y)) Q st := by first | exact k | exact ⟨k⟩
theorem spec_ascS {xs : List Str} (hl : xs.length ≤ 600000) (q : Q (.bl (ascS xs)) st) : wp (m_ascends [.tup (xs.map D.str)]) Q st := by
  refine w_run' [.val (.tup (xs.map D.str)), .no] rfl ?_
  unfold s_ascends
  subst_eqs
  refine w_int2 rfl ?_
  refine ⟨_, rfl, ?_⟩
  refine w_rangeP (m := xs.length - 1) (by rw [List.length_map]; omega) (by rw [List.length_map]; omega) (by rw [List.length_map]; omega) ?_
  refine lc_mp (fun (i : Nat) => D.int i) (fun j => .bl (ltS (xs.getD j "") (xs.getD (j + 1) ""))) _ (fun j hj => ⟨_, set_nm (by simp [wipeE]), fun Q hQ => ?_⟩) ?_
  · have hj : j + 1 < xs.length := by
      have := List.mem_range.mp hj
      omega
    rw [getS (by omega : j < xs.length), getS hj] at hQ
    subst_eqs
    refine w_ixT (d := .str xs[j]) (atI_nat (by rw [List.getElem?_map, List.getElem?_eq_getElem (by omega)]; rfl)) ?_
    subst_eqs
    refine w_ixT (d := .str xs[j + 1]) ?_ ?_
    · have e : ((j : Int) + 1) = ((j + 1 : Nat) : Int) := by omega
      rw [e]
      exact atI_nat (by rw [List.getElem?_map, List.getElem?_eq_getElem hj]; rfl)
    · exact w_ltSS hQ
  · refine w_all ?_
    subst_eqs
    exact q
end
end LK

set_option linter.all false
set_option maxRecDepth 100000
set_option maxHeartbeats 4000000
/-! W23: a right program is a program to the program. -/
namespace LK
open PySem PySem.Spec L2 PL PG
section
variable {st : Sto}
theorem lcA_mp {β : Type} {set1 : D → En → Option En} {te : En → M D} {ρ : En} (f1 : β → D) (g : β → D) : ∀ (ys : List β) (acc : List D) {R : List D → Sto → Prop}, (∀ y ∈ ys, ∃ ρ', set1 (f1 y) ρ = some ρ' ∧ (∀ Q : D → Sto → Prop, Q (g y) st → wp (te ρ') Q st)) → acc.length + ys.length ≤ 1000000 →
    R (acc ++ ys.map g) st → wp (lcA set1 tTrue te ρ acc (ys.map f1)) R st
  | [], acc, R, _, _, k => by
    show wp (M.pure acc) R st
    rw [wp_pure]
    rw [List.map_nil, List.append_nil] at k; exact k
  | y :: ys, acc, R, hs, hl, k => by
    obtain ⟨ρ', e, h⟩ := hs y List.mem_cons_self
    rw [List.length_cons] at hl
    show wp ((opt (set1 (f1 y) ρ)).bind _) R st
    rw [wp_bind, e, wp_some, wp_bind]
    refine w_true ?_
    rw [if_pos rfl, wp_bind]
    refine h _ ?_
    rw [wp_bind, wp_line]
    refine ⟨small2 (by omega), lcA_mp f1 g ys (acc ++ [g y]) (fun z hz => hs z (List.mem_cons_of_mem _ hz)) (by rw [List.length_append]; simp only [List.length_cons, List.length_nil]; omega) ?_⟩
    rw [List.append_assoc]; exact k
theorem lc2_mp {α β : Type} {set set1 : D → En → Option En} {it1 : En → M (List D)} {vs1 : List Nat} {te : En → M D} {ρ : En} (f : α → D) (h : α → List β) (f1 : β → D) (g : β → D) : ∀ (xs : List α) (acc : List D) {R : List D → Sto → Prop},
    (∀ x ∈ xs, ∃ ρ', set (f x) ρ = some ρ' ∧ (∀ A : List D → Sto → Prop, A ((h x).map f1) st → wp (it1 ρ') A st) ∧ ∀ y ∈ h x, ∃ ρ'', set1 (f1 y) (wipeE ρ' vs1) = some ρ'' ∧ (∀ Q : D → Sto → Prop, Q (g y) st → wp (te ρ'') Q st)) →
    acc.length + (xs.flatMap h).length ≤ 1000000 → R (acc ++ (xs.flatMap h).map g) st → wp (lc2A set tTrue it1 set1 vs1 tTrue te ρ acc (xs.map f)) R st
  | [], acc, R, _, _, k => by
    show wp (M.pure acc) R st
    rw [wp_pure]
    simpa using k
  | x :: xs, acc, R, hs, hl, k => by
    obtain ⟨ρ', e, h1, h2⟩ := hs x List.mem_cons_self
    rw [List.flatMap_cons, List.length_append] at hl
    show wp ((opt (set (f x) ρ)).bind _) R st
    rw [wp_bind, e, wp_some, wp_bind]
    refine w_true ?_
    rw [if_pos rfl, wp_bind]
    refine h1 _ ?_
    rw [wp_bind]
    refine lcA_mp f1 g (h x) acc h2 (by omega) ?_
    refine lc2_mp f h f1 g xs _ (fun z hz => hs z (List.mem_cons_of_mem _ hz)) (by rw [List.length_append, List.length_map]; omega) ?_
    rw [List.flatMap_cons, List.map_append, ← List.append_assoc] at k; exact k
end
theorem keys_aw : ∀ as : List Aw, keysN (as.map Aw.d) = some (as.map nkA)
  | [] => rfl
  | a :: as => by
    show (keyN a.d).bind (fun k => (keysN (as.map Aw.d)).map (k :: ·)) = _
    rw [key_aw, keys_aw as]; rfl
theorem nub_nodup : ∀ {ks : List NestedKey}, ks.Nodup → nubN ks = ks
  | [], _ => rfl
  | k :: ks, h => by
    obtain ⟨h1, h2⟩ := List.nodup_cons.mp h
    unfold nubN
    rw [if_neg h1, nub_nodup h2]
theorem nk_nodup {as : List Aw} (h : as.Nodup) : (as.map nkA).Nodup := by
  rw [List.nodup_iff_pairwise_ne, List.pairwise_map]
  rw [List.nodup_iff_pairwise_ne] at h
  exact h.imp fun ne e => ne (nkA_inj e)
section
variable {st : Sto} {Q : D → Sto → Prop} {P : List Py} {C : List Cy}
theorem spec_ascL {xs : List Str} (hl : xs.length ≤ 600000) (q : Q (.bl (ascS xs)) st) : wp (m_ascends [.lst (xs.map D.str)]) Q st := by
  refine w_run' [.val (.lst (xs.map D.str)), .no] rfl ?_
  unfold s_ascends
  subst_eqs
  refine w_int2 rfl ?_
  refine ⟨_, rfl, ?_⟩
  refine w_rangeP (m := xs.length - 1) (by rw [List.length_map]; omega) (by rw [List.length_map]; omega) (by rw [List.length_map]; omega) ?_
  refine lc_mp (fun (i : Nat) => D.int i) (fun j => .bl (ltS (xs.getD j "") (xs.getD (j + 1) ""))) _ (fun j hj => ⟨_, set_nm (by simp [wipeE]), fun Q hQ => ?_⟩) ?_
  · have hj : j + 1 < xs.length := by
      have := List.mem_range.mp hj
      omega
    rw [getS (by omega : j < xs.length), getS hj] at hQ
    subst_eqs
    refine w_ixL (d := .str xs[j]) (atI_nat (by rw [List.getElem?_map, List.getElem?_eq_getElem (by omega)]; rfl)) ?_
    subst_eqs
    refine w_ixL (d := .str xs[j + 1]) ?_ ?_
    · have e : ((j : Int) + 1) = ((j + 1 : Nat) : Int) := by omega
      rw [e]
      exact atI_nat (by rw [List.getElem?_map, List.getElem?_eq_getElem hj]; rfl)
    · exact w_ltSS hQ
  · refine w_all ?_
    subst_eqs
    exact q
theorem all_true {α : Type} (xs : List α) : (xs.all fun _ => true) = true := List.all_eq_true.mpr fun _ _ => rfl
end
end LK

set_option linter.all false
set_option maxRecDepth 100000
set_option maxHeartbeats 4000000
/-! A11: channels, parties: program and law. -/
namespace LK
open PySem PySem.Spec L2 PL PG
structure Py where
  n : Str
  es : List Int
  as : List Aw
def Py.d (p : Py) : D := .tup [.str p.n, .tup (p.es.map D.int), .tup (p.as.map Aw.d)]
structure PyR (p : Py) : Prop where
  n : nameS p.n = true
  as : ∀ a ∈ p.as, dgOk a.g
/-- values of which no tuple is long, but of numbers -/
def Vk : Nat → D → Prop
  | n + 1, .tup ds => ds.length ≤ 1000 ∧ (ds.length < 64 ∨ ∀ d ∈ ds, ∃ i, d = .int i) ∧ ∀ d ∈ ds, Vk n d
  | n + 1, .lst ds => ds.length ≤ 1000 ∧ ∀ d ∈ ds, Vk n d
  | _, d => Lf d
theorem Vk.lf {d : D} (h : Lf d) : ∀ n, Vk n d := fun n => by
  cases n with
  | zero => cases d <;> exact h
  | succ n => cases d <;> first | exact h | exact h.elim
theorem Vk.va : ∀ {n : Nat} {d : D}, Vk n d → Va n d
  | 0, d, h => by cases d <;> exact h
  | n + 1, .tup ds, h => ⟨h.1, fun d hd => Vk.va (h.2.2 d hd)⟩
  | n + 1, .lst ds, h => ⟨h.1, fun d hd => Vk.va (h.2 d hd)⟩
  | n + 1, .non, h => h
  | n + 1, .bl _, h => h
  | n + 1, .int _, h => h
  | n + 1, .str _, h => h
  | n + 1, .frz _, h => h
  | n + 1, .ref _, h => h
theorem Vk.succ : ∀ {n : Nat} {d : D}, Vk n d → Vk (n + 1) d
  | 0, d, h => Vk.lf (by cases d <;> exact h) 1
  | n + 1, .tup ds, h => ⟨h.1, h.2.1, fun d hd => Vk.succ (h.2.2 d hd)⟩
  | n + 1, .lst ds, h => ⟨h.1, fun d hd => Vk.succ (h.2 d hd)⟩
  | n + 1, .non, h => h
  | n + 1, .bl _, h => h
  | n + 1, .int _, h => h
  | n + 1, .str _, h => h
  | n + 1, .frz _, h => h
  | n + 1, .ref _, h => h
theorem Vk.mono {n m : Nat} {d : D} (h : Vk n d) (hm : n ≤ m) : Vk m d := by
  obtain ⟨k, rfl⟩ := Nat.exists_eq_add_of_le hm
  induction k with
  | zero => exact h
  | succ k ih => exact Vk.succ (ih (by omega))
def Ak (d : D) : Prop := Vk 60 d
theorem Ak.an {d : D} (h : Ak d) : An d := Vk.va h
theorem Ak.mem {ds : List D} (h : Ak (.tup ds)) : ∀ d ∈ ds, Ak d := fun d hd => Vk.succ (h.2.2 d hd)
/-! ### arrows that are all different -/
def ndB (as : List D) : Bool := !((List.range as.length).any fun k => (as.take k).any fun z => z.eqv (as.getD k .non))
def paB : D → Bool
  | .tup [a, es, .tup as] => nameB a && (endsB es && (as.all arB && ndB as))
  | _ => false
def chB (d : D) : Bool := rowB d && !cEnd d
theorem ars_of {as : List D} (h : as.all arB = true) : ∃ aw : List Aw, as = aw.map Aw.d ∧ ∀ a ∈ aw, dgOk a.g := map_of Aw.d (fun a => dgOk a.g) as fun i hi => by
  obtain ⟨a, e, ha⟩ := ar_of (List.all_eq_true.mp h _ (List.mem_of_getElem? (List.getElem?_eq_getElem hi)))
  exact ⟨a, by rw [getD_get (List.getElem?_eq_getElem hi)]; exact e, ha⟩
theorem nub_le : ∀ ks : List NestedKey, (nubN ks).length ≤ ks.length
  | [] => Nat.le_refl _
  | k :: ks => by
    unfold nubN
    split
    · exact Nat.le_succ_of_le (nub_le ks)
    · exact Nat.succ_le_succ (nub_le ks)
theorem nub_nd : ∀ {ks : List NestedKey}, (nubN ks).length = ks.length → ks.Nodup
  | [], _ => .nil
  | k :: ks, h => by
    unfold nubN at h
    split at h
    · have := nub_le ks
      rw [List.length_cons] at h; omega
    · rename_i hk
      exact List.nodup_cons.mpr ⟨hk, nub_nd (by simpa using h)⟩
theorem nd_aw {aw : List Aw} (h : (aw.map nkA).Nodup) : aw.Nodup := by
  rw [List.nodup_iff_pairwise_ne] at h ⊢
  rw [List.pairwise_map] at h
  exact h.imp fun ne e => ne (congrArg nkA e)
theorem ndB_iff {aw : List Aw} : ndB (aw.map Aw.d) = true ↔ aw.Nodup := by
  have g : ∀ k (hk : k < aw.length), (aw.map Aw.d).getD k .non = aw[k].d := fun k hk => getD_get (by rw [List.getElem?_map, List.getElem?_eq_getElem hk]; rfl)
  unfold ndB
  rw [Bool.not_eq_true', List.any_eq_false]
  constructor
  · intro h
    rw [List.nodup_iff_pairwise_ne, List.pairwise_iff_getElem]
    intro i j hi hj hij e
    refine h j (List.mem_range.mpr (by rw [List.length_map]; exact hj)) ?_
    rw [g j hj, ← List.map_take, any_aw, decide_eq_true_eq, List.mem_take_iff_getElem]
    exact ⟨i, by omega, e⟩
  · intro h k hk
    have hk : k < aw.length := by have := List.mem_range.mp hk; rw [List.length_map] at this; exact this
    rw [g k hk, ← List.map_take, any_aw, decide_eq_true_eq, List.mem_take_iff_getElem]
    rintro ⟨i, hi, e⟩
    rw [List.nodup_iff_pairwise_ne, List.pairwise_iff_getElem] at h
    exact h i k (by omega) hk (by omega) e
theorem lset_nd {aw : List Aw} : ((nubN (aw.map nkA)).length == aw.length) = ndB (aw.map Aw.d) := by
  rw [Bool.eq_iff_iff, ndB_iff, beq_iff_eq]
  constructor
  · intro h
    exact nd_aw (nub_nd (by rw [List.length_map]; exact h))
  · intro h
    rw [nub_nodup (nk_nodup h), List.length_map]
theorem pa_no {d : D} (h3 : sizB 3 d = false) : paB d = false := by
  unfold paB
  split
  · cases h3
  · rfl
theorem pa_tup {a es c : D} (h : tupB c = false) : paB (.tup [a, es, c]) = false := by
  cases c with
  | tup _ => cases h
  | _ => rfl
theorem pa_of {d : D} (h : paB d = true) : ∃ p : Py, d = p.d ∧ PyR p := by
  unfold paB at h
  split at h
  · rename_i a es as
    simp only [Bool.and_eq_true] at h
    obtain ⟨h1, h2, h3, h4⟩ := h
    obtain ⟨x, rfl, hx⟩ := name_str h1
    obtain ⟨aw, rfl, haw⟩ := ars_of h3
    cases es with
    | tup ds =>
      have h2 : (ds.all numB && ascB (ds.map intV)) = true := h2
      rw [Bool.and_eq_true] at h2
      refine ⟨⟨x, ds.map intV, aw⟩, ?_, hx, haw⟩
      show D.tup [_, _, _] = D.tup [_, .tup ((ds.map intV).map D.int), _]
      rw [← nums_ints h2.1]
    | _ => cases h2
  · cases h
theorem ch_of {d : D} (h : chB d = true) : ∃ c : Cy, d = c.d ∧ CyOk c := by
  unfold chB at h
  rw [Bool.and_eq_true] at h
  obtain ⟨c, rfl, h1, h2, h3, h4⟩ := row_cy h.1
  refine ⟨c, rfl, h1, h2, h3, h4, fun e => ?_⟩
  have h5 : (!(D.str c.a).eqv (.str c.b)) = true := h.2
  rw [eqv_ss, e] at h5
  simp at h5
theorem len64 {as : List D} (h : Ak (.tup as)) (ha : as.all arB = true) : as.length < 64 := by
  rcases h.2.1 with h | h
  · exact h
  · cases as with
    | nil => decide
    | cons a as =>
      obtain ⟨i, rfl⟩ := h a List.mem_cons_self
      rw [List.all_cons] at ha
      cases ha
section
variable {d : D} {st : Sto} {Q : D → Sto → Prop}
theorem w_lsetG {as : List Aw} {R : D → Sto → Prop} (hl : as.length < 64) (k : R (.int ((nubN (as.map nkA)).length : Nat)) st) : wp (lsetM (.tup (as.map Aw.d))) R st := by
  show wp ((opt (keysN (as.map Aw.d))).bind fun ks => guardM (decide (ks.length < 64)) (M.pure (.int (nubN ks).length))) R st
  rw [wp_bind, keys_aw, wp_some, wp_guard, wp_pure, List.length_map]
  exact ⟨decide_eq_true hl, k⟩
theorem spec_is_channel (h : An d) (k : Q (.bl (chB d)) st) : wp (m_is_channel [d]) Q st := by
  refine w_run' [.val d] rfl ?_
  unfold s_is_channel
  subst_eqs
  refine ⟨rfl, spec_is_row4 h ?_⟩
  unfold chB at k
  cases er : rowB d with
  | false =>
    rw [er] at k
    subst_eqs
    exact k
  | true =>
    rw [er, Bool.true_and] at k
    obtain ⟨c, rfl, h1, h2, h3, h4⟩ := row_cy er
    have k : Q (.bl (!(D.str c.a).eqv (.str c.b))) st := k
    unfold Cy.d
    subst_eqs
    refine w_ixT at1 ?_
    subst_eqs
    refine w_ixT at2 ?_
    subst_eqs
    refine w_ne (nameS_shp h2) (nameS_shp h3) ?_
    subst_eqs
    exact k
theorem spec_lchannel (h : An d) (k : Q (.bl (chB d)) st) : wp (m__law_is_channel [d]) Q st := by
  refine w_run' [.val d, .no] rfl ?_
  unfold s__law_is_channel
  subst_eqs
  refine ⟨rfl, spec_sized (n := 4) h ?_⟩
  have no : rowB d = false → Q (.bl false) st := fun e => by
    unfold chB at k; rw [e] at k; exact k
  cases e4 : sizB 4 d with
  | false =>
    subst_eqs
    exact no (row_no e4)
  | true =>
    obtain ⟨a, b, c, f, rfl⟩ := siz4 e4
    obtain ⟨ha, hb, hc, hf⟩ := an4 h
    subst_eqs
    refine w_ixT at3 ?_
    subst_eqs
    refine ⟨three_ok, w_notIn rfl hf.shp qbc_shp ?_⟩
    refine k_bl (k_if (fun ef => ?_) fun ef => ?_)
    · subst_eqs
      exact no (by rw [row_parts, form_no ef, Bool.and_false])
    · have ef : formB f = true := by rw [any_form] at ef; simpa using ef
      have er : rowB (.tup [a, b, c, f]) = (nameB a && (nameB b && nameB c)) := by rw [row_parts, ef, Bool.and_true]
      subst_eqs
      refine ⟨_, rfl, ?_⟩
      have ec : cutD [a, b, c, f] none (some 3) = [a, b, c] := rfl
      rw [ec]
      refine lc_selfF (fun x => !nameB x) (fun x => x) _ (fun x hx => ⟨_, set_nm (by simp [wipeE]), fun T hT => ?_, fun _ Q hQ => ?_⟩) ?_
      · subst_eqs
        refine ⟨rfl, spec_lname ?_ (k_bl hT)⟩
        simp only [List.mem_cons, List.not_mem_nil, or_false] at hx
        rcases hx with rfl | rfl | rfl <;> assumption
      · subst_eqs
        exact hQ
      · rw [List.map_id']
        have hsh : (D.lst ([a, b, c].filter fun x => !nameB x)).shp = true := (shp_lst (k := 60) fun x hx => by
          have hx := (List.mem_filter.mp hx).1
          simp only [List.mem_cons, List.not_mem_nil, or_false] at hx
          rcases hx with rfl | rfl | rfl <;> exact va_shp (by assumption)).shp
        subst_eqs
        refine ⟨by decide, ?_⟩
        refine w_eq hsh shp_nil ?_
        rw [eqv_ll, eqvL_nil, filter_nil]
        have e3 : ([a, b, c].all nameB) = (nameB a && (nameB b && nameB c)) := by simp [List.all_cons]
        rw [e3, ← er]
        cases er2 : rowB (.tup [a, b, c, f]) with
        | false =>
          subst_eqs
          exact no er2
        | true =>
          have k : Q (.bl (!b.eqv c)) st := by
            unfold chB at k; rw [er2, Bool.true_and] at k; exact k
          subst_eqs
          refine w_ixT at1 ?_
          subst_eqs
          refine w_ixT at2 ?_
          subst_eqs
          refine w_ne hb.shp hc.shp ?_
          subst_eqs
          exact k
theorem spec_is_party (h : Ak d) (k : Q (.bl (paB d)) st) : wp (m_is_party [d]) Q st := by
  refine w_run' [.val d, .no, .no] rfl ?_
  unfold s_is_party
  subst_eqs
  refine ⟨rfl, spec_is_row (n := 3) h.an ?_⟩
  cases e3 : sizB 3 d with
  | false =>
    rw [pa_no e3] at k
    subst_eqs
    exact k
  | true =>
    obtain ⟨a, es, c, rfl⟩ := siz3 e3
    obtain ⟨ha, hes, hc⟩ := an3 h.an
    subst_eqs
    refine w_ixT at0 ?_
    subst_eqs
    refine ⟨rfl, spec_is_name ha ?_⟩
    cases en : nameB a with
    | false =>
      have k : Q (.bl false) st := by
        have e : paB (.tup [a, es, c]) = false := by
          unfold paB
          split
          · rename_i h1; injection h1 with h1; injection h1 with h1 _; rw [← h1, en]; rfl
          · rfl
        rw [e] at k; exact k
      subst_eqs
      exact k
    | true =>
      subst_eqs
      refine w_ixT at1 ?_
      subst_eqs
      refine ⟨rfl, spec_is_ends hes ?_⟩
      cases ee : endsB es with
      | false =>
        have k : Q (.bl false) st := by
          have e : paB (.tup [a, es, c]) = false := by
            unfold paB
            split
            · rename_i h1; injection h1 with h1; injection h1 with _ h1; injection h1 with h1 _; rw [← h1, ee]; simp
            · rfl
          rw [e] at k; exact k
        subst_eqs
        exact k
      | true =>
        subst_eqs
        refine w_ixT at2 ?_
        subst_eqs
        refine wi_tup hc ?_
        cases et : tupB c with
        | false =>
          rw [pa_tup et] at k
          subst_eqs
          exact k
        | true =>
          cases c with
          | tup as =>
            have k : Q (.bl (as.all arB && ndB as)) st := by
              have e : paB (.tup [a, es, .tup as]) = (nameB a && (endsB es && (as.all arB && ndB as))) := rfl
              rw [e, en, ee] at k; exact k
            have hk : Ak (.tup as) := h.mem _ (by simp)
            subst_eqs
            refine ⟨as, rfl, ?_⟩
            refine lc_self (fun x => .bl (arB x)) _ (fun x hx => ⟨_, set_nm (by simp [wipeE]), fun Q hQ => ?_⟩) ?_
            · subst_eqs
              exact ⟨rfl, spec_is_arrow (hc.mem x hx) hQ⟩
            · subst_eqs
              refine w_all ?_
              cases ea : as.all arB with
              | false =>
                rw [ea] at k
                subst_eqs
                exact k
              | true =>
                rw [ea, Bool.true_and] at k
                have hl := len64 hk ea
                obtain ⟨aw, rfl, _⟩ := ars_of ea
                rw [List.length_map] at hl
                subst_eqs
                refine w_lsetG hl ?_
                subst_eqs
                refine w_eq shp_int.shp shp_int.shp ?_
                rw [nat_eqv, List.length_map, lset_nd]
                subst_eqs
                exact k
          | _ => cases et
theorem spec_lparty (h : An d) (k : Q (.bl (paB d)) st) : wp (m__law_is_party [d]) Q st := by
  refine w_run' [.val d, .no, .no] rfl ?_
  unfold s__law_is_party
  subst_eqs
  refine ⟨rfl, spec_sized (n := 3) h ?_⟩
  cases e3 : sizB 3 d with
  | false =>
    rw [pa_no e3] at k
    subst_eqs
    exact k
  | true =>
    obtain ⟨a, es, c, rfl⟩ := siz3 e3
    obtain ⟨ha, hes, hc⟩ := an3 h
    subst_eqs
    refine w_ixT at0 ?_
    subst_eqs
    refine ⟨rfl, spec_lname ha ?_⟩
    cases en : nameB a with
    | false =>
      have k : Q (.bl false) st := by
        have e : paB (.tup [a, es, c]) = false := by
          unfold paB
          split
          · rename_i h1; injection h1 with h1; injection h1 with h1 _; rw [← h1, en]; rfl
          · rfl
        rw [e] at k; exact k
      subst_eqs
      exact k
    | true =>
      subst_eqs
      refine w_ixT at1 ?_
      subst_eqs
      refine ⟨rfl, spec_lends hes ?_⟩
      cases ee : endsB es with
      | false =>
        have k : Q (.bl false) st := by
          have e : paB (.tup [a, es, c]) = false := by
            unfold paB
            split
            · rename_i h1; injection h1 with h1; injection h1 with _ h1; injection h1 with h1 _; rw [← h1, ee]; simp
            · rfl
          rw [e] at k; exact k
        subst_eqs
        exact k
      | true =>
        subst_eqs
        refine w_ixT at2 ?_
        subst_eqs
        refine wi_tup hc ?_
        cases et : tupB c with
        | false =>
          rw [pa_tup et] at k
          subst_eqs
          exact k
        | true =>
          cases c with
          | tup as =>
            have k : Q (.bl (as.all arB && ndB as)) st := by
              have e : paB (.tup [a, es, .tup as]) = (nameB a && (endsB es && (as.all arB && ndB as))) := rfl
              rw [e, en, ee] at k; exact k
            have hlen := hc.len
            subst_eqs
            refine w_ixT at2 ?_
            refine ⟨as, rfl, ?_⟩
            refine lc_selfF (fun x => !arB x) (fun x => x) _ (fun x hx => ⟨_, set_nm (by simp [wipeE]), fun T hT => ?_, fun _ Q hQ => ?_⟩) ?_
            · subst_eqs
              exact ⟨rfl, spec_larrow (hc.mem x hx) (k_bl hT)⟩
            · subst_eqs
              exact hQ
            · rw [List.map_id']
              have hsh : (D.lst (as.filter fun x => !arB x)).shp = true := (shp_lst (k := 59) fun x hx => va_shp (hc.2 x (List.mem_filter.mp hx).1)).shp
              subst_eqs
              refine ⟨by decide, ?_⟩
              refine w_ne hsh shp_nil ?_
              rw [eqv_ll, eqvL_nil, filter_nil]
              cases ea : as.all arB with
              | false =>
                rw [ea] at k
                refine k_bl ?_
                refine k_ifT ?_
                subst_eqs
                exact k
              | true =>
                rw [ea, Bool.true_and] at k
                refine k_bl ?_
                refine k_ifF ?_
                subst_eqs
                refine w_ixT at2 ?_
                subst_eqs
                refine ⟨_, rfl, w_rangeN (by omega) ?_⟩
                refine lc_fm (fun (i : Nat) => D.int i) (fun j => (as.take j).any fun z => z.eqv (as.getD j .non)) (fun (i : Nat) => D.int i) _ (fun j hj => ⟨_, set_nm (by simp [wipeE]), fun T hT => ?_, fun _ Q hQ => ?_⟩) ?_
                · have hj := List.mem_range.mp hj
                  have hg := List.getElem?_eq_getElem hj
                  have hm := hc.mem _ (List.mem_of_getElem? hg)
                  rw [getD_get hg] at hT
                  generalize as[j] = y at hg hm hT
                  subst_eqs
                  refine w_ixT at2 ?_
                  subst_eqs
                  refine w_ixT (atI_nat hg) ?_
                  subst_eqs
                  refine w_ixT at2 ?_
                  subst_eqs
                  rw [cut_take (Nat.le_of_lt hj)]
                  refine w_in rfl hm.shp (shp_tup (k := 59) fun x hx => va_shp (hc.2 x (List.mem_of_mem_take hx))).shp ?_
                  exact k_bl hT
                · subst_eqs
                  exact hQ
                · subst_eqs
                  refine ⟨by decide, ?_⟩
                  refine w_eq (shp_lst (k := 0) fun y hy => ?_).shp shp_nil ?_
                  · obtain ⟨i, _, rfl⟩ := List.mem_map.mp hy; exact shp_int
                  rw [eqv_ll, eqvL_nil, List.isEmpty_map]
                  have e2 : ((List.range as.length).filter fun j => (as.take j).any fun z => z.eqv (as.getD j .non)).isEmpty = ndB as := by
                    unfold ndB
                    rw [← isEmpty_filter, Bool.not_not]
                  rw [e2]
                  subst_eqs
                  exact k
          | _ => cases et
end
end LK

set_option linter.all false
set_option maxRecDepth 100000
set_option maxHeartbeats 4000000
/-! A12: programs: program and law. -/
namespace LK
open PySem PySem.Spec L2 PL PG
def gOf : D → Dg
  | .tup [_, .tup [_, .str a], _] => .dd a
  | .tup [_, .tup [.str w, .str c, .str a], _] => .cm w c a
  | _ => .dd ""
def awOf (d : D) : Aw := match d with
  | .tup [.int s, _, .int e] => ⟨s, gOf d, e⟩
  | _ => ⟨0, .dd "", 0⟩
theorem awOf_d {a : Aw} : awOf a.d = a := by
  obtain ⟨s, g, e⟩ := a
  cases g <;> rfl
def pyOf : D → Py
  | .tup [.str n, .tup es, .tup as] => ⟨n, es.map intV, as.map awOf⟩
  | _ => ⟨"", [], []⟩
theorem pyOf_d (p : Py) : pyOf p.d = p := by
  obtain ⟨n, es, as⟩ := p
  show (⟨n, (es.map D.int).map intV, (as.map Aw.d).map awOf⟩ : Py) = _
  rw [List.map_map, List.map_map]
  have e1 : (intV ∘ D.int) = id := by funext i; rfl
  have e2 : (awOf ∘ Aw.d) = id := by funext a; exact awOf_d
  rw [e1, e2, List.map_id, List.map_id]
theorem pyOf_s (P : List Py) : (P.map Py.d).map pyOf = P := by
  rw [List.map_map]
  have e : (pyOf ∘ Py.d) = id := by funext p; exact pyOf_d p
  rw [e, List.map_id]
def ownP (C : List Cy) (p : Py) : Bool := p.as.all fun a => ownB C p.n a.g
def sideB (ns : List Str) (c : Cy) : Bool := ns.contains c.a && ns.contains c.b
def restB (P : List Py) (C : List Cy) : Bool := ascS (P.map Py.n) && (ascS (C.map Cy.n) && (C.all (sideB (P.map Py.n)) && P.all (ownP C)))
def prB : D → Bool
  | .tup [.tup ps, .tup cs] => ps.all paB && (cs.all chB && restB (ps.map pyOf) (cs.map cyOf))
  | _ => false
theorem pr_no {d : D} (h : pairB d = false) : prB d = false := by
  unfold prB
  split
  · cases h
  · rfl
theorem ps_all {ps : List D} (h : ps.all paB = true) : ∃ P : List Py, ps = P.map Py.d ∧ ∀ p ∈ P, PyR p := map_of Py.d PyR ps fun i hi => by
  obtain ⟨p, e, hp⟩ := pa_of (List.all_eq_true.mp h _ (List.mem_of_getElem? (List.getElem?_eq_getElem hi)))
  exact ⟨p, by rw [getD_get (List.getElem?_eq_getElem hi)]; exact e, hp⟩
theorem cs_all {cs : List D} (h : cs.all chB = true) : ∃ C : List Cy, cs = C.map Cy.d ∧ ∀ c ∈ C, CyOk c := map_of Cy.d CyOk cs fun i hi => by
  obtain ⟨p, e, hp⟩ := ch_of (List.all_eq_true.mp h _ (List.mem_of_getElem? (List.getElem?_eq_getElem hi)))
  exact ⟨p, by rw [getD_get (List.getElem?_eq_getElem hi)]; exact e, hp⟩
theorem asc_chs {C : List Cy} (h : ∀ c ∈ C, CyOk c) (ha : ascS (C.map Cy.n) = true) : ChsOk C := ⟨h, rise_pair Cy.n C fun i hi => by
  unfold ascS at ha
  rw [List.all_eq_true, List.length_map] at ha
  have := ha i (List.mem_range.mpr (by omega))
  rw [getS (by rw [List.length_map]; omega), getS (by rw [List.length_map]; exact hi), List.getElem_map, List.getElem_map] at this
  exact this⟩
section
variable {st : Sto} {Q : D → Sto → Prop} {P : List Py} {C : List Cy} {d : D}
theorem spec_is_program (h : Ak d) (q : ∀ more, Q (.bl (prB d)) (st ++ more)) : wp (m_is_program [d]) Q st := by
  have hA := h.an
  have q0 : Q (.bl (prB d)) st := by have := q []; rwa [List.append_nil] at this
  refine w_run' [.val d, .no, .no, .no, .no, .no, .no, .no] rfl ?_
  unfold s_is_program
  subst_eqs
  refine ⟨rfl, spec_is_pair hA ?_⟩
  cases hp : pairB d with
  | false =>
    rw [pr_no hp] at q0
    subst_eqs
    exact q0
  | true =>
    obtain ⟨ps, cs, rfl⟩ : ∃ ps cs, d = .tup [.tup ps, .tup cs] := by
      unfold pairB at hp
      split at hp
      · exact ⟨_, _, rfl⟩
      · cases hp
    obtain ⟨hps, hcs⟩ := an2 hA
    have kps : Ak (.tup ps) := h.mem _ (by simp)
    have e0 : prB (.tup [.tup ps, .tup cs]) = (ps.all paB && (cs.all chB && restB (ps.map pyOf) (cs.map cyOf))) := rfl
    rw [e0] at q q0
    subst_eqs
    refine ⟨_, rfl, ?_⟩
    subst_eqs
    refine ⟨_, rfl, ?_⟩
    refine lc_self (fun x => .bl (paB x)) _ (fun p hpm => ⟨_, set_nm (by simp [wipeE]), fun Q hQ => ?_⟩) ?_
    · subst_eqs
      exact ⟨rfl, spec_is_party (kps.mem p hpm) hQ⟩
    · subst_eqs
      refine w_all ?_
      cases ep : ps.all paB with
      | false =>
        rw [ep] at q0
        subst_eqs
        exact q0
      | true =>
        rw [ep, Bool.true_and] at q q0
        subst_eqs
        refine ⟨_, rfl, ?_⟩
        refine lc_self (fun x => .bl (chB x)) _ (fun c hc => ⟨_, set_nm (by simp [wipeE]), fun Q hQ => ?_⟩) ?_
        · subst_eqs
          exact ⟨rfl, spec_is_channel (hcs.mem c hc) hQ⟩
        · subst_eqs
          refine w_all ?_
          cases ec : cs.all chB with
          | false =>
            rw [ec] at q0
            subst_eqs
            exact q0
          | true =>
            rw [ec, Bool.true_and] at q q0
            obtain ⟨P, rfl, hP⟩ := ps_all ep
            obtain ⟨C, rfl, hC⟩ := cs_all ec
            rw [pyOf_s, cyOf_d] at q q0
            have hpl := hps.len
            have hcl := hcs.len
            rw [List.length_map] at hpl hcl
            have hal : ∀ p ∈ P, p.as.length ≤ 1000 := fun p hpp => by
              have := ((an3 (show An (.tup [.str p.n, .tup (p.es.map D.int), .tup (p.as.map Aw.d)]) from hps.mem _ (List.mem_map_of_mem hpp))).2.2).len
              rw [List.length_map] at this; exact this
            unfold restB at q q0
            subst_eqs
            refine ⟨_, rfl, ?_⟩
            refine lc_mp Py.d (fun p => .str p.n) _ (fun p hp => ⟨_, set_nm (by simp [wipeE]), fun Q hQ => ?_⟩) ?_
            · subst_eqs
              exact w_ixT (xs := [.str p.n, .tup (p.es.map D.int), .tup (p.as.map Aw.d)]) at0 hQ
            · have en : (P.map fun p => D.str p.n) = (P.map Py.n).map D.str := by rw [List.map_map]; rfl
              have hnm : ∀ n ∈ P.map Py.n, nameS n = true := fun n hn => by
                obtain ⟨p, hp, rfl⟩ := List.mem_map.mp hn; exact (hP p hp).n
              have hlen : (P.map Py.n).length = P.length := List.length_map _
              rw [en]
              generalize P.map Py.n = ns at hnm hlen q q0
              subst_eqs
              refine ⟨rfl, spec_ascL (by omega) ?_⟩
              cases e1 : ascS ns with
              | false =>
                rw [e1] at q0
                subst_eqs
                exact q0
              | true =>
                rw [e1, Bool.true_and] at q q0
                subst_eqs
                refine ⟨_, rfl, ?_⟩
                refine lc_mp Cy.d (fun c => .str c.n) _ (fun c hc => ⟨_, set_nm (by simp [wipeE]), fun Q hQ => ?_⟩) ?_
                · subst_eqs
                  exact w_ixT (xs := [.str c.n, .str c.a, .str c.b, .str c.f]) at0 hQ
                · have en : (C.map fun c => D.str c.n) = (C.map Cy.n).map D.str := by rw [List.map_map]; rfl
                  rw [en]
                  subst_eqs
                  refine ⟨rfl, spec_ascL (by rw [List.length_map]; omega) ?_⟩
                  cases e2 : ascS (C.map Cy.n) with
                  | false =>
                    rw [e2] at q0
                    subst_eqs
                    exact q0
                  | true =>
                    rw [e2, Bool.true_and] at q q0
                    have hok := asc_chs hC e2
                    subst_eqs
                    refine ⟨_, rfl, ?_⟩
                    refine lc_mp Cy.d (fun c => .bl (sideB ns c)) _ (fun c hc => ⟨_, set_nm (by simp [wipeE]), fun Q hQ => ?_⟩) ?_
                    · have hco := hC c hc
                      unfold sideB at hQ
                      subst_eqs
                      refine w_ixT (xs := [.str c.n, .str c.a, .str c.b, .str c.f]) at1 ?_
                      subst_eqs
                      refine w_in rfl (nameS_shp hco.a) (names_shp hnm) ?_
                      rw [any_names]
                      cases ea : ns.contains c.a with
                      | false =>
                        rw [ea] at hQ
                        subst_eqs
                        exact hQ
                      | true =>
                        rw [ea, Bool.true_and] at hQ
                        subst_eqs
                        refine w_ixT (xs := [.str c.n, .str c.a, .str c.b, .str c.f]) at2 ?_
                        subst_eqs
                        refine w_in rfl (nameS_shp hco.b) (names_shp hnm) ?_
                        rw [any_names]
                        subst_eqs
                        exact hQ
                    · subst_eqs
                      refine w_all ?_
                      cases e3 : C.all (sideB ns) with
                      | false =>
                        rw [e3] at q0
                        subst_eqs
                        exact q0
                      | true =>
                        rw [e3, Bool.true_and] at q
                        subst_eqs
                        refine ⟨rfl, spec_sides hok (by omega) ?_⟩
                        have hsd : (st ++ [Ob.dict (kvOf C)])[st.length]? = some (.dict (kvOf C)) := List.getElem?_concat_length
                        have qq := q [Ob.dict (kvOf C)]
                        generalize st ++ [Ob.dict (kvOf C)] = s1 at hsd qq
                        generalize st.length = n1 at hsd
                        subst_eqs
                        refine w_lc2 ?_
                        subst_eqs
                        refine ⟨_, rfl, ?_⟩
                        refine lc2_mp Py.d (fun p => p.as.map fun a => (p.n, a)) (fun q => q.2.d) (fun q => .bl (ownB C q.1 q.2.g)) P [] (fun p hp => ⟨_, set_nm (by simp [wipeE]), fun A hA => ?_, fun a ha => ⟨_, set_nm (by simp [wipeE]), fun Q hQ => ?_⟩⟩) ?_ ?_
                        · subst_eqs
                          refine w_ixT (xs := [.str p.n, .tup (p.es.map D.int), .tup (p.as.map Aw.d)]) at2 ?_
                          have e : (p.as.map fun a => (p.n, a)).map (fun q => q.2.d) = p.as.map Aw.d := by rw [List.map_map]; rfl
                          rw [e] at hA
                          exact ⟨_, rfl, hA⟩
                        · obtain ⟨b, hb, rfl⟩ := List.mem_map.mp ha
                          have hbo := (hP p hp).as b hb
                          subst_eqs
                          refine w_ixT (xs := [.str p.n, .tup (p.es.map D.int), .tup (p.as.map Aw.d)]) at0 ?_
                          subst_eqs
                          refine w_ixT (xs := [.int b.s, b.g.d, .int b.e]) at1 ?_
                          subst_eqs
                          exact ⟨rfl, spec_is_owner hsd hok (hP p hp).n hbo hQ⟩
                        · have hb : ∀ l : List Py, (∀ p ∈ l, p.as.length ≤ 1000) → (l.flatMap fun p => p.as.map fun a => (p.n, a)).length ≤ 1000 * l.length := fun l hl => by
                            induction l with
                            | nil => simp
                            | cons p l ih =>
                              have h1 := hl p List.mem_cons_self
                              have h2 := ih fun p hp => hl p (List.mem_cons_of_mem _ hp)
                              rw [List.flatMap_cons, List.length_append, List.length_map, List.length_cons]
                              omega
                          have h1 := hb P hal
                          simp only [List.length_nil]
                          omega
                        · rw [List.nil_append]
                          subst_eqs
                          refine w_all (p := fun q : Str × Aw => ownB C q.1 q.2.g) ?_
                          have ef : (P.flatMap fun p => p.as.map fun a => (p.n, a)).all (fun q : Str × Aw => ownB C q.1 q.2.g) = P.all (ownP C) := by
                            rw [List.all_flatMap]
                            congr 1
                            funext p
                            rw [List.all_map]; rfl
                          rw [ef]
                          subst_eqs
                          exact qq
/-! ### the law's reading -/
theorem w_subI2 {i j : Int} (k : Q (.int (i - j)) st) : wp (subM (.int i) (.int j)) Q st := ⟨k⟩
theorem spec_lrising {α : Type} (f : α → D) (nm : α → Str) (tl : α → List D) (hf : ∀ a, f a = .tup (.str (nm a) :: tl a)) {xs : List α} (hl : xs.length ≤ 1000) (k : Q (.bl (ascS (xs.map nm))) st) : wp (m__law_is_rising [.tup (xs.map f)]) Q st := by
  refine w_run' [.val (.tup (xs.map f)), .no] rfl ?_
  unfold s__law_is_rising
  have hlen : (xs.map f).length = xs.length := List.length_map _
  subst_eqs
  refine w_iR2 (m := xs.length) (by omega) ?_
  subst_eqs
  refine ⟨by rw [hlen], ?_⟩
  refine lc_fm (fun (i : Nat) => D.int ((i + 1 : Nat) : Int)) (fun i => !ltS ((xs.map nm).getD i "") ((xs.map nm).getD (i + 1) "")) (fun (i : Nat) => D.int ((i + 1 : Nat) : Int)) _ (fun j hj => ⟨_, set_nm (by simp [wipeE]), fun T hT => ?_, fun _ Q hQ => ?_⟩) ?_
  · have hj : j + 1 < xs.length := by
      have := List.mem_range.mp hj
      omega
    have g : ∀ i (hi : i < xs.length), (xs.map f)[i]? = some (.tup (.str ((xs.map nm).getD i "") :: tl xs[i])) := fun i hi => by
      rw [List.getElem?_map, List.getElem?_eq_getElem hi, getS (by rw [List.length_map]; exact hi), List.getElem_map]
      exact congrArg some (hf _)
    subst_eqs
    refine w_subI2 ?_
    have e2 : (((j + 1 : Nat) : Int) - 1) = ((j : Nat) : Int) := by omega
    rw [e2]
    refine w_ixT (atI_nat (g j (by omega))) ?_
    subst_eqs
    refine w_ixT at0 ?_
    subst_eqs
    refine w_ixT (atI_nat (g (j + 1) hj)) ?_
    subst_eqs
    refine w_ixT at0 ?_
    exact w_geSS (k_bl hT)
  · subst_eqs
    exact hQ
  · subst_eqs
    refine ⟨by decide, ?_⟩
    refine w_eq (shp_lst (k := 0) fun y hy => ?_).shp shp_nil ?_
    · obtain ⟨i, _, rfl⟩ := List.mem_map.mp hy; exact shp_int
    rw [eqv_ll, eqvL_nil, List.isEmpty_map, filter_nil]
    have ea : ((List.range (xs.length - 1)).all fun x => ltS ((xs.map nm).getD x "") ((xs.map nm).getD (x + 1) "")) = ascS (xs.map nm) := by
      unfold ascS; rw [List.length_map]
    rw [ea]
    subst_eqs
    exact k
def wOf (a : Aw) : Str := match a.g with
  | .dd _ => "do"
  | .cm w _ _ => w
def cOf (a : Aw) : Str := match a.g with
  | .dd x => x
  | .cm _ c _ => c
theorem aw_parts (a : Aw) : ∃ tl, a.d = .tup [.int a.s, .tup (.str (wOf a) :: .str (cOf a) :: tl), .int a.e] := by
  obtain ⟨s, g, e⟩ := a
  cases g with
  | dd x => exact ⟨[], rfl⟩
  | cm w c x => exact ⟨[.str x], rfl⟩
theorem wOf_ok {a : Aw} (h : dgOk a.g) : (D.str (wOf a)).shp = true := by
  obtain ⟨s, g, e⟩ := a
  cases g with
  | dd x => exact (by decide +kernel : (D.str "do").shp = true)
  | cm w c x =>
    rcases h.1 with rfl | rfl
    · exact (by decide +kernel : (D.str "put").shp = true)
    · exact (by decide +kernel : (D.str "take").shp = true)
theorem cOf_ok {a : Aw} (h : dgOk a.g) : nameS (cOf a) = true := by
  obtain ⟨s, g, e⟩ := a
  cases g with
  | dd x => exact h
  | cm w c x => exact h.2.1
theorem cont_any {w nm c : Str} (sd : Cy → Str) (hs : ∀ x, side w x = sd x) : ((C.filter fun x => sd x == nm).map Cy.n).contains c = C.any fun x => x.n == c && side w x == nm := by
  rw [Bool.eq_iff_iff, List.contains_iff_mem, List.any_eq_true]
  constructor
  · intro h
    obtain ⟨x, hx, rfl⟩ := List.mem_map.mp h
    obtain ⟨h1, h2⟩ := List.mem_filter.mp hx
    exact ⟨x, h1, by rw [hs, h2]; simp⟩
  · rintro ⟨x, hx, e⟩
    rw [Bool.and_eq_true, hs, beq_iff_eq] at e
    exact List.mem_map.mpr ⟨x, List.mem_filter.mpr ⟨hx, e.2⟩, e.1⟩
def putsC (C : List Cy) (nm : Str) : List Str := (C.filter fun x => x.a == nm).map Cy.n
def takesC (C : List Cy) (nm : Str) : List Str := (C.filter fun x => x.b == nm).map Cy.n
theorem side_put (x : Cy) : side "put" x = x.a := rfl
theorem side_take (x : Cy) : side "take" x = x.b := rfl
theorem own_lists (hok : ChsOk C) {p : Py} (h : PyR p) : ((((p.as.filter fun a => wOf a == "put").map cOf).filter fun c => !(putsC C p.n).contains c).isEmpty && (((p.as.filter fun a => wOf a == "take").map cOf).filter fun c => !(takesC C p.n).contains c).isEmpty) = ownP C p := by
  rw [filter_nil, filter_nil, List.all_map, List.all_map, Bool.eq_iff_iff, Bool.and_eq_true, List.all_eq_true, List.all_eq_true]
  unfold ownP
  rw [List.all_eq_true]
  have one : ∀ a ∈ p.as, ∀ w c x, a.g = .cm w c x → wOf a = w ∧ cOf a = c := fun a _ w c x e => by unfold wOf cOf; rw [e]; exact ⟨rfl, rfl⟩
  have ep : ∀ c, (putsC C p.n).contains c = ownC C p.n "put" c := fun c => by
    unfold putsC
    rw [cont_any (w := "put") Cy.a side_put, own_any (chs_nodup hok)]
  have et : ∀ c, (takesC C p.n).contains c = ownC C p.n "take" c := fun c => by
    unfold takesC
    rw [cont_any (w := "take") Cy.b side_take, own_any (chs_nodup hok)]
  constructor
  · rintro ⟨h1, h2⟩ a ha
    cases hg : a.g with
    | dd x => rfl
    | cm w c x =>
      obtain ⟨e1, e2⟩ := one a ha w c x hg
      have hd := h.as a ha
      rw [hg] at hd
      show ownC C p.n w c = true
      rcases hd.1 with rfl | rfl
      · have := h1 a (List.mem_filter.mpr ⟨ha, by rw [e1]; decide⟩)
        rw [Function.comp, e2, ep] at this; exact this
      · have := h2 a (List.mem_filter.mpr ⟨ha, by rw [e1]; decide⟩)
        rw [Function.comp, e2, et] at this; exact this
  · intro hh
    constructor
    · intro a ha
      obtain ⟨h1, h2⟩ := List.mem_filter.mp ha
      have h3 := hh a h1
      cases hg : a.g with
      | dd x =>
        have : wOf a = "do" := by unfold wOf; rw [hg]
        rw [this] at h2; exact absurd h2 (by decide)
      | cm w c x =>
        obtain ⟨e1, e2⟩ := one a h1 w c x hg
        rw [e1, beq_iff_eq] at h2
        rw [hg, h2] at h3
        rw [Function.comp, e2, ep]; exact h3
    · intro a ha
      obtain ⟨h1, h2⟩ := List.mem_filter.mp ha
      have h3 := hh a h1
      cases hg : a.g with
      | dd x =>
        have : wOf a = "do" := by unfold wOf; rw [hg]
        rw [this] at h2; exact absurd h2 (by decide)
      | cm w c x =>
        obtain ⟨e1, e2⟩ := one a h1 w c x hg
        rw [e1, beq_iff_eq] at h2
        rw [hg, h2] at h3
        rw [Function.comp, e2, et]; exact h3
theorem spec_lowner (hok : ChsOk C) (hcl : C.length ≤ 1000) {p : Py} (h : PyR p) (hal : p.as.length ≤ 1000) (k : Q (.bl (ownP C p)) st) : wp (m__law_is_owner [p.d, .tup (C.map Cy.d)]) Q st := by
  refine w_run' [.val p.d, .val (.tup (C.map Cy.d)), .no, .no, .no, .no, .no, .no, .no] rfl ?_
  unfold s__law_is_owner Py.d
  subst_eqs
  refine ⟨_, rfl, ?_⟩
  refine lc_fm Cy.d (fun c => c.a == p.n) (fun c => .str c.n) _ (fun c hc => ⟨_, set_nm (by simp [wipeE]), fun T hT => ?_, fun _ Q hQ => ?_⟩) ?_
  · have hco := hok.1 c hc
    subst_eqs
    refine w_ixT (xs := [.str c.n, .str c.a, .str c.b, .str c.f]) at1 ?_
    subst_eqs
    refine w_ixT at0 ?_
    subst_eqs
    refine w_eq (nameS_shp hco.a) (nameS_shp h.n) ?_
    rw [eqv_ss]
    exact k_bl hT
  · subst_eqs
    exact w_ixT (xs := [.str c.n, .str c.a, .str c.b, .str c.f]) at0 hQ
  · have e1 : ((C.filter fun c => c.a == p.n).map fun c => D.str c.n) = (putsC C p.n).map D.str := by unfold putsC; rw [List.map_map]; rfl
    rw [e1]
    subst_eqs
    refine ⟨_, rfl, ?_⟩
    refine lc_fm Cy.d (fun c => c.b == p.n) (fun c => .str c.n) _ (fun c hc => ⟨_, set_nm (by simp [wipeE]), fun T hT => ?_, fun _ Q hQ => ?_⟩) ?_
    · have hco := hok.1 c hc
      subst_eqs
      refine w_ixT (xs := [.str c.n, .str c.a, .str c.b, .str c.f]) at2 ?_
      subst_eqs
      refine w_ixT at0 ?_
      subst_eqs
      refine w_eq (nameS_shp hco.b) (nameS_shp h.n) ?_
      rw [eqv_ss]
      exact k_bl hT
    · subst_eqs
      exact w_ixT (xs := [.str c.n, .str c.a, .str c.b, .str c.f]) at0 hQ
    · have e2 : ((C.filter fun c => c.b == p.n).map fun c => D.str c.n) = (takesC C p.n).map D.str := by unfold takesC; rw [List.map_map]; rfl
      rw [e2]
      have hpn : ∀ n ∈ putsC C p.n, nameS n = true := fun n hn => by
        obtain ⟨c, hc, rfl⟩ := List.mem_map.mp hn; exact (hok.1 c (List.mem_filter.mp hc).1).n
      have htn : ∀ n ∈ takesC C p.n, nameS n = true := fun n hn => by
        obtain ⟨c, hc, rfl⟩ := List.mem_map.mp hn; exact (hok.1 c (List.mem_filter.mp hc).1).n
      have ol := own_lists hok h
      subst_eqs
      refine w_ixT at2 ?_
      refine ⟨_, rfl, ?_⟩
      refine lc_fm Aw.d (fun a => wOf a == "put") (fun a => .str (cOf a)) _ (fun a ha => ⟨_, set_nm (by simp [wipeE]), fun T hT => ?_, fun _ Q hQ => ?_⟩) ?_
      · obtain ⟨tl, e⟩ := aw_parts a
        rw [e]
        subst_eqs
        refine w_ixT at1 ?_
        subst_eqs
        refine w_ixT at0 ?_
        subst_eqs
        refine w_eq (wOf_ok (h.as a ha)) put_shp ?_
        rw [eqv_ss]
        exact k_bl hT
      · obtain ⟨tl, e⟩ := aw_parts a
        rw [e]
        subst_eqs
        refine w_ixT at1 ?_
        subst_eqs
        exact w_ixT at1 hQ
      · have e3 : ((p.as.filter fun a => wOf a == "put").map fun a => D.str (cOf a)) = ((p.as.filter fun a => wOf a == "put").map cOf).map D.str := by rw [List.map_map]; rfl
        rw [e3]
        have hn3 : ∀ n ∈ (p.as.filter fun a => wOf a == "put").map cOf, nameS n = true := fun n hn => by
          obtain ⟨a, ha, rfl⟩ := List.mem_map.mp hn; exact cOf_ok (h.as a (List.mem_filter.mp ha).1)
        have hl3 : ((p.as.filter fun a => wOf a == "put").map cOf).length ≤ 1000 := by rw [List.length_map]; exact Nat.le_trans (List.length_filter_le _ _) hal
        subst_eqs
        refine w_ixT at2 ?_
        refine ⟨_, rfl, ?_⟩
        refine lc_fm Aw.d (fun a => wOf a == "take") (fun a => .str (cOf a)) _ (fun a ha => ⟨_, set_nm (by simp [wipeE]), fun T hT => ?_, fun _ Q hQ => ?_⟩) ?_
        · obtain ⟨tl, e⟩ := aw_parts a
          rw [e]
          subst_eqs
          refine w_ixT at1 ?_
          subst_eqs
          refine w_ixT at0 ?_
          subst_eqs
          refine w_eq (wOf_ok (h.as a ha)) (by decide +kernel) ?_
          rw [eqv_ss]
          exact k_bl hT
        · obtain ⟨tl, e⟩ := aw_parts a
          rw [e]
          subst_eqs
          refine w_ixT at1 ?_
          subst_eqs
          exact w_ixT at1 hQ
        · have e4 : ((p.as.filter fun a => wOf a == "take").map fun a => D.str (cOf a)) = ((p.as.filter fun a => wOf a == "take").map cOf).map D.str := by rw [List.map_map]; rfl
          rw [e4]
          have hn4 : ∀ n ∈ (p.as.filter fun a => wOf a == "take").map cOf, nameS n = true := fun n hn => by
            obtain ⟨a, ha, rfl⟩ := List.mem_map.mp hn; exact cOf_ok (h.as a (List.mem_filter.mp ha).1)
          have hl4 : ((p.as.filter fun a => wOf a == "take").map cOf).length ≤ 1000 := by rw [List.length_map]; exact Nat.le_trans (List.length_filter_le _ _) hal
          generalize (p.as.filter fun a => wOf a == "put").map cOf = ls at hn3 hl3 ol
          generalize (p.as.filter fun a => wOf a == "take").map cOf = ms at hn4 hl4 ol
          generalize putsC C p.n = us at hpn ol
          generalize takesC C p.n = vs at htn ol
          subst_eqs
          refine ⟨_, rfl, ?_⟩
          refine lc_fm D.str (fun c => !us.contains c) D.str _ (fun c hc => ⟨_, set_nm (by simp [wipeE]), fun T hT => ?_, fun _ Q hQ => ?_⟩) ?_
          · subst_eqs
            refine w_notIn rfl (nameS_shp (hn3 c hc)) (names_shp hpn) ?_
            rw [any_names]
            exact k_bl hT
          · subst_eqs
            exact hQ
          · subst_eqs
            refine ⟨_, rfl, ?_⟩
            refine lc_fm D.str (fun c => !vs.contains c) D.str _ (fun c hc => ⟨_, set_nm (by simp [wipeE]), fun T hT => ?_, fun _ Q hQ => ?_⟩) ?_
            · subst_eqs
              refine w_notIn rfl (nameS_shp (hn4 c hc)) (names_shp htn) ?_
              rw [any_names]
              exact k_bl hT
            · subst_eqs
              exact hQ
            · have f1 := List.length_filter_le (fun c => !us.contains c) ls
              have f2 := List.length_filter_le (fun c => !vs.contains c) ms
              refine w_addL (small2 (by rw [List.length_map, List.length_map]; omega)) ?_
              subst_eqs
              refine ⟨by decide, ?_⟩
              refine w_eq (shp_lst (k := 0) fun y hy => ?_).shp shp_nil ?_
              · rcases List.mem_append.mp hy with hy | hy
                · obtain ⟨c, hc, rfl⟩ := List.mem_map.mp hy; exact shp_str (nameS_ok (hn3 c (List.mem_filter.mp hc).1))
                · obtain ⟨c, hc, rfl⟩ := List.mem_map.mp hy; exact shp_str (nameS_ok (hn4 c (List.mem_filter.mp hc).1))
              have e5 : ((ls.filter fun c => !us.contains c).map D.str ++ (ms.filter fun c => !vs.contains c).map D.str).isEmpty = ownP C p := by
                rw [← ol]
                cases (ls.filter fun c => !us.contains c) <;> cases (ms.filter fun c => !vs.contains c) <;> rfl
              rw [eqv_ll, eqvL_nil, e5]
              subst_eqs
              exact k
end
end LK

set_option linter.all false
set_option maxRecDepth 100000
set_option maxHeartbeats 4000000
/-! A13: the law's programs; the nine answers. -/
namespace LK
open PySem PySem.Spec L2 PL PG
section
variable {st : Sto} {Q : D → Sto → Prop} {d : D}
theorem spec_lprogram (h : Ak d) (q0 : Q (.bl (prB d)) st) : wp (m__law_is_program [d]) Q st := by
  have hA := h.an
  refine w_run' [.val d, .no, .no, .no] rfl ?_
  unfold s__law_is_program
  subst_eqs
  refine ⟨rfl, spec_sized (n := 2) hA ?_⟩
  cases h2 : sizB 2 d with
  | false =>
    have hp : pairB d = false := by
      unfold pairB
      split
      · cases h2
      · rfl
    rw [pr_no hp] at q0
    subst_eqs
    exact q0
  | true =>
    obtain ⟨a, b, rfl⟩ := siz2 h2
    obtain ⟨ha, hb⟩ := an2 hA
    have e : pairB (.tup [a, b]) = (tupB a && tupB b) := by
      cases a <;> cases b <;> rfl
    subst_eqs
    refine w_ixT at0 ?_
    refine wi_tup ha ?_
    cases ea : tupB a with
    | false =>
      rw [ea] at e
      rw [pr_no e] at q0
      subst_eqs
      exact q0
    | true =>
      subst_eqs
      refine w_ixT at1 ?_
      refine wi_tup hb ?_
      cases eb : tupB b with
      | false =>
        rw [ea, eb] at e
        rw [pr_no e] at q0
        subst_eqs
        exact q0
      | true =>
        cases a with
        | tup ps =>
          cases b with
          | tup cs =>
            have kps : Ak (.tup ps) := h.mem _ (by simp)
            have e0 : prB (.tup [.tup ps, .tup cs]) = (ps.all paB && (cs.all chB && restB (ps.map pyOf) (cs.map cyOf))) := rfl
            rw [e0] at q0
            subst_eqs
            refine w_ixT at0 ?_
            refine ⟨_, rfl, ?_⟩
            refine lc_selfF (fun x => !paB x) (fun x => x) _ (fun p hpm => ⟨_, set_nm (by simp [wipeE]), fun T hT => ?_, fun _ Q hQ => ?_⟩) ?_
            · subst_eqs
              exact ⟨rfl, spec_lparty (kps.mem p hpm).an (k_bl hT)⟩
            · subst_eqs
              exact hQ
            · rw [List.map_id']
              have hsh : (D.lst (ps.filter fun x => !paB x)).shp = true := (shp_lst (k := 59) fun x hx => va_shp (ha.2 x (List.mem_filter.mp hx).1)).shp
              subst_eqs
              refine ⟨by decide, ?_⟩
              refine w_ne hsh shp_nil ?_
              rw [eqv_ll, eqvL_nil, filter_nil]
              cases ep : ps.all paB with
              | false =>
                rw [ep] at q0
                refine k_bl ?_
                refine k_ifT ?_
                subst_eqs
                exact q0
              | true =>
                rw [ep, Bool.true_and] at q0
                refine k_bl ?_
                refine k_ifF ?_
                subst_eqs
                refine w_ixT at1 ?_
                refine ⟨_, rfl, ?_⟩
                refine lc_selfF (fun x => !chB x) (fun x => x) _ (fun c hcm => ⟨_, set_nm (by simp [wipeE]), fun T hT => ?_, fun _ Q hQ => ?_⟩) ?_
                · subst_eqs
                  exact ⟨rfl, spec_lchannel (hb.mem c hcm) (k_bl hT)⟩
                · subst_eqs
                  exact hQ
                · rw [List.map_id']
                  have hsh : (D.lst (cs.filter fun x => !chB x)).shp = true := (shp_lst (k := 59) fun x hx => va_shp (hb.2 x (List.mem_filter.mp hx).1)).shp
                  subst_eqs
                  refine ⟨by decide, ?_⟩
                  refine w_ne hsh shp_nil ?_
                  rw [eqv_ll, eqvL_nil, filter_nil]
                  cases ec : cs.all chB with
                  | false =>
                    rw [ec] at q0
                    refine k_bl ?_
                    refine k_ifT ?_
                    subst_eqs
                    exact q0
                  | true =>
                    rw [ec, Bool.true_and] at q0
                    refine k_bl ?_
                    refine k_ifF ?_
                    obtain ⟨P, rfl, hP⟩ := ps_all ep
                    obtain ⟨C, rfl, hC⟩ := cs_all ec
                    rw [pyOf_s, cyOf_d] at q0
                    have hpl := ha.len
                    have hcl := hb.len
                    rw [List.length_map] at hpl hcl
                    have hal : ∀ p ∈ P, p.as.length ≤ 1000 := fun p hpp => by
                      have := ((an3 (show An (.tup [.str p.n, .tup (p.es.map D.int), .tup (p.as.map Aw.d)]) from ha.mem _ (List.mem_map_of_mem hpp))).2.2).len
                      rw [List.length_map] at this; exact this
                    have r1 : ∀ {Q : D → Sto → Prop} {st : Sto}, Q (.bl (ascS (P.map Py.n))) st → wp (m__law_is_rising [.tup (P.map Py.d)]) Q st := fun k => spec_lrising Py.d Py.n (fun p => [.tup (p.es.map D.int), .tup (p.as.map Aw.d)]) (fun _ => rfl) hpl k
                    have r2 : ∀ {Q : D → Sto → Prop} {st : Sto}, Q (.bl (ascS (C.map Cy.n))) st → wp (m__law_is_rising [.tup (C.map Cy.d)]) Q st := fun k => spec_lrising Cy.d Cy.n (fun c => [.str c.a, .str c.b, .str c.f]) (fun _ => rfl) hcl k
                    have vps := ha.2
                    have vcs := hb.2
                    unfold restB at q0
                    subst_eqs
                    refine w_ixT at0 ?_
                    refine ⟨_, rfl, ?_⟩
                    refine lc_mp Py.d (fun p => .str p.n) _ (fun p hp => ⟨_, set_nm (by simp [wipeE]), fun Q hQ => ?_⟩) ?_
                    · subst_eqs
                      exact w_ixT (xs := [.str p.n, .tup (p.es.map D.int), .tup (p.as.map Aw.d)]) at0 hQ
                    · have en : (P.map fun p => D.str p.n) = (P.map Py.n).map D.str := by rw [List.map_map]; rfl
                      have hnm : ∀ n ∈ P.map Py.n, nameS n = true := fun n hn => by
                        obtain ⟨p, hp, rfl⟩ := List.mem_map.mp hn; exact (hP p hp).n
                      rw [en]
                      generalize P.map Py.n = ns at hnm q0 r1
                      subst_eqs
                      refine w_ixT at1 ?_
                      refine ⟨_, rfl, ?_⟩
                      refine lc_fm Cy.d (fun c => !sideB ns c) Cy.d _ (fun c hc => ⟨_, set_nm (by simp [wipeE]), fun T hT => ?_, fun _ Q hQ => ?_⟩) ?_
                      · have hco := hC c hc
                        unfold sideB at hT
                        subst_eqs
                        refine w_ixT (xs := [.str c.n, .str c.a, .str c.b, .str c.f]) at1 ?_
                        subst_eqs
                        refine w_notIn rfl (nameS_shp hco.a) (names_shp hnm) ?_
                        rw [any_names]
                        cases ea2 : ns.contains c.a with
                        | false =>
                          rw [ea2] at hT
                          subst_eqs
                          exact hT
                        | true =>
                          rw [ea2, Bool.true_and] at hT
                          subst_eqs
                          refine w_ixT (xs := [.str c.n, .str c.a, .str c.b, .str c.f]) at2 ?_
                          subst_eqs
                          refine w_notIn rfl (nameS_shp hco.b) (names_shp hnm) ?_
                          rw [any_names]
                          exact k_bl hT
                      · subst_eqs
                        exact hQ
                      · have hsh : (D.lst ((C.filter fun c => !sideB ns c).map Cy.d)).shp = true := (shp_lst (k := 59) fun x hx => by
                          obtain ⟨c, hc, rfl⟩ := List.mem_map.mp hx
                          exact va_shp (vcs _ (List.mem_map_of_mem (List.mem_filter.mp hc).1))).shp
                        subst_eqs
                        refine ⟨by decide, ?_⟩
                        refine w_ne hsh shp_nil ?_
                        rw [eqv_ll, eqvL_nil, List.isEmpty_map, filter_nil]
                        cases e3 : C.all (sideB ns) with
                        | false =>
                          have q0 : Q (.bl false) st := by
                            rw [e3, Bool.false_and, Bool.and_false, Bool.and_false] at q0; exact q0
                          refine k_bl ?_
                          refine k_ifT ?_
                          subst_eqs
                          exact q0
                        | true =>
                          rw [e3, Bool.true_and] at q0
                          refine k_bl ?_
                          refine k_ifF ?_
                          subst_eqs
                          refine w_ixT at0 ?_
                          subst_eqs
                          refine ⟨rfl, r1 ?_⟩
                          cases e1 : ascS ns with
                          | false =>
                            rw [e1] at q0
                            subst_eqs
                            exact q0
                          | true =>
                            rw [e1, Bool.true_and] at q0
                            subst_eqs
                            refine w_ixT at1 ?_
                            subst_eqs
                            refine ⟨rfl, r2 ?_⟩
                            cases e2 : ascS (C.map Cy.n) with
                            | false =>
                              rw [e2] at q0
                              subst_eqs
                              exact q0
                            | true =>
                              rw [e2, Bool.true_and] at q0
                              have hok := asc_chs hC e2
                              subst_eqs
                              refine w_ixT at0 ?_
                              refine ⟨_, rfl, ?_⟩
                              refine lc_fm Py.d (fun p => !ownP C p) Py.d _ (fun p hp => ⟨_, set_nm (by simp [wipeE]), fun T hT => ?_, fun _ Q hQ => ?_⟩) ?_
                              · subst_eqs
                                refine w_ixT at1 ?_
                                subst_eqs
                                exact ⟨rfl, spec_lowner hok hcl (hP p hp) (hal p hp) (k_bl hT)⟩
                              · subst_eqs
                                exact hQ
                              · have hsh : (D.lst ((P.filter fun p => !ownP C p).map Py.d)).shp = true := (shp_lst (k := 59) fun x hx => by
                                  obtain ⟨c, hc, rfl⟩ := List.mem_map.mp hx
                                  exact va_shp (vps _ (List.mem_map_of_mem (List.mem_filter.mp hc).1))).shp
                                subst_eqs
                                refine ⟨by decide, ?_⟩
                                refine w_eq hsh shp_nil ?_
                                rw [eqv_ll, eqvL_nil, List.isEmpty_map, filter_nil]
                                subst_eqs
                                exact q0
          | _ => cases eb
        | _ => cases ea
def evB : D → Bool
  | .tup [a, b] => nameB a && numB b
  | _ => false
theorem ev_no (h : sizB 2 d = false) : evB d = false := by
  unfold evB
  split
  · cases h
  · rfl
theorem spec_is_event (h : An d) (k : Q (.bl (evB d)) st) : wp (m_is_event [d]) Q st := by
  refine w_run' [.val d] rfl ?_
  unfold s_is_event
  subst_eqs
  refine ⟨rfl, spec_is_row (n := 2) h ?_⟩
  cases h2 : sizB 2 d with
  | false =>
    rw [ev_no h2] at k
    subst_eqs
    exact k
  | true =>
    obtain ⟨a, b, rfl⟩ := siz2 h2
    obtain ⟨ha, hb⟩ := an2 h
    have k : Q (.bl (nameB a && numB b)) st := k
    subst_eqs
    refine w_ixT at0 ?_
    subst_eqs
    refine ⟨rfl, spec_is_name ha ?_⟩
    cases e : nameB a with
    | false =>
      rw [e] at k
      subst_eqs
      exact k
    | true =>
      rw [e, Bool.true_and] at k
      subst_eqs
      refine w_ixT at1 ?_
      subst_eqs
      exact ⟨rfl, spec_is_number hb k⟩
theorem atI_bl {bs : List Bool} {j : Nat} (h : j < bs.length) : atI (bs.map D.bl) (j : Int) = some (.bl bs[j]) := atI_nat (by rw [List.getElem?_map, List.getElem?_eq_getElem h]; rfl)
def intB : D → Bool
  | .int _ => true
  | _ => false
theorem w_lint {ρ : En} {R : D → Sto → Prop} (hd : An d) (h0 : ρ[0]? = some (.val d)) (k : R (.bl (intB d)) st) : wp (vAnd (e1 (isiM "int") (eVar 0)) (vNot (e1 (isiM "bool") (eVar 0))) ρ) R st := by
  cases d with
  | frz _ => exact hd.elim
  | ref _ => exact hd.elim
  | _ =>
    refine w_vAnd (w_e1 (w_var h0 ?_))
    first
    | (subst_eqs
       refine w_var h0 ?_
       subst_eqs
       exact k)
    | (subst_eqs
       exact k)
theorem eqv_self_b {x : Bool} : (D.bl x).eqv (.bl x) = true := by cases x <;> decide
theorem kinds_end {bs : List Bool} (hb : bs.length = 9) {x0 x3 : Slot} {R : D → Sto → Prop} (k : R (.bl true) st) : wp (e2 eqM (eL (eLc (iRange1 (aCons (eC (.int 9)) (aNil))) (.nm 3) [3] (tOor (tNt (tBl (e1 (isiM "bool") (e2 ixM (eLook 2) (eVar 3))))) (tBl (e2 neM (e2 ixM (eLook 2) (eVar 3)) (e2 ixM (eLook 1) (eVar 3))))) (eVar 3))) (eLst (aNil)) [x0, .own (bs.map D.bl), .own (bs.map D.bl), x3]) R st := by
  subst_eqs
  refine ⟨_, rfl, w_rangeN (n := 9) (by decide) ?_⟩
  refine lc_fm (fun (i : Nat) => D.int i) (fun _ => false) (fun (i : Nat) => D.int i) _ (fun j hj => ⟨_, set_nm (by simp [wipeE]), fun T hT => ?_, fun hh => by cases hh⟩) ?_
  · have hj := List.mem_range.mp hj
    have hg := atI_bl (bs := bs) (j := j) (by omega)
    subst_eqs
    refine w_ixL hg ?_
    subst_eqs
    refine w_ixL hg ?_
    subst_eqs
    refine w_ixL hg ?_
    subst_eqs
    refine w_ne shp_bl.shp shp_bl.shp ?_
    rw [eqv_self_b]
    exact k_bl hT
  · have : (List.range 9).filter (fun _ => false) = [] := by simp
    rw [this]
    subst_eqs
    refine ⟨by decide, w_eq shp_nil shp_nil ?_⟩
    rw [eqv_ll, eqvL_nil]
    exact k
theorem spec_kinds (h : Ak d) (k : ∀ more, Q (.bl true) (st ++ more)) : wp (m__law_kinds_right [d]) Q st := by
  have hA := h.an
  refine w_run' [.val d, .no, .no, .no] rfl ?_
  unfold s__law_kinds_right
  refine w_seq (w_own (by simp) (w_fLst (w_aC (w_lint hA rfl ?_))))
  subst_eqs
  refine ⟨rfl, spec_lnum hA ?_⟩
  subst_eqs
  refine ⟨rfl, spec_lname hA ?_⟩
  subst_eqs
  refine ⟨three_ok, ?_⟩
  subst_eqs
  refine ⟨rfl, spec_ldoing hA ?_⟩
  subst_eqs
  refine ⟨rfl, spec_larrow hA ?_⟩
  subst_eqs
  refine ⟨rfl, spec_lchannel hA ?_⟩
  subst_eqs
  refine ⟨rfl, spec_lparty hA ?_⟩
  subst_eqs
  refine ⟨small2 (by simp), ?_⟩
  refine ⟨_, rfl, small2 (by simp), ?_⟩
  subst_eqs
  refine ⟨rfl, spec_lprogram h ?_⟩
  refine ⟨small2 (by simp), ?_⟩
  have ev : ∀ {R : D → Sto → Prop} {ρ : En}, ρ[0]? = some (.val d) → R (.bl (evB d)) st → wp (vAnd (eCall 2 m__law_is_sized (aCons (eVar 0) (aCons (eC (.int 2)) (aNil)))) (vAnd (eCall 1 m__law_is_name (aCons (e2 ixM (eVar 0) (eC (.int 0))) (aNil))) (eCall 1 m__law_is_number (aCons (e2 ixM (eVar 0) (eC (.int 1))) (aNil)))) ρ) R st := by
    intro R ρ hv k
    refine w_vAnd (w_call (w_aC (w_var hv ?_)))
    subst_eqs
    refine ⟨rfl, spec_sized (n := 2) hA ?_⟩
    cases h2 : sizB 2 d with
    | false =>
      rw [ev_no h2] at k
      subst_eqs
      exact k
    | true =>
      obtain ⟨a, b, rfl⟩ := siz2 h2
      obtain ⟨ha, hb⟩ := an2 hA
      have k : R (.bl (nameB a && numB b)) st := k
      refine k_bl (k_ifT (w_vAnd (w_call (w_aC (w_e2 (w_var hv ?_))))))
      subst_eqs
      refine w_ixT at0 ?_
      subst_eqs
      refine ⟨rfl, spec_lname ha ?_⟩
      cases e : nameB a with
      | false =>
        rw [e] at k
        subst_eqs
        exact k
      | true =>
        rw [e, Bool.true_and] at k
        refine k_bl (k_ifT (w_call (w_aC (w_e2 (w_var hv ?_)))))
        subst_eqs
        refine w_ixT at1 ?_
        subst_eqs
        exact ⟨rfl, spec_lnum hb k⟩
  refine k_seq (w_seq (w_app rfl (ev rfl ?_)))
  refine ⟨small2 (by simp), ?_⟩
  have hint : ∀ (R : D → Sto → Prop), R (.bl (intB d)) st → wp (m_is_integer [d]) R st := fun R k => by
    cases d with
    | frz _ => exact hA.elim
    | ref _ => exact hA.elim
    | _ => exact spec_is_integer hA k
  subst_eqs
  refine ⟨rfl, hint _ ?_⟩
  subst_eqs
  refine ⟨rfl, spec_is_number hA ?_⟩
  subst_eqs
  refine ⟨rfl, spec_is_name hA ?_⟩
  subst_eqs
  refine ⟨rfl, spec_is_doing hA ?_⟩
  subst_eqs
  refine ⟨rfl, spec_is_arrow hA ?_⟩
  subst_eqs
  refine ⟨small2 (by simp), ?_⟩
  subst_eqs
  refine ⟨rfl, spec_is_channel hA ?_⟩
  subst_eqs
  refine ⟨rfl, spec_is_party h ?_⟩
  subst_eqs
  refine ⟨rfl, spec_is_program h fun more => ?_⟩
  subst_eqs
  refine ⟨rfl, spec_is_event hA ?_⟩
  subst_eqs
  refine ⟨small2 (by simp), ?_⟩
  refine ⟨_, rfl, small2 (by simp), ?_⟩
  refine k_seq (w_ret ?_)
  exact kinds_end (bs := [intB d, numB d, nameB d, dgB d, arB d, chB d, paB d, prB d, evB d]) rfl (k_run (k more))
end
end LK

set_option linter.all false
set_option maxRecDepth 100000
set_option maxHeartbeats 4000000
/-! V11: what the law draws: strange things, rows with a thing put in, spoilt papers. -/
namespace LK
open PySem PySem.Spec L2 PL PG
def Vs : Nat → D → Prop
  | n + 1, .tup ds => ds.length ≤ 63 ∧ ∀ d ∈ ds, Vs n d
  | n + 1, .lst ds => ds.length ≤ 63 ∧ ∀ d ∈ ds, Vs n d
  | _, d => Lf d
theorem Vs.lf {d : D} (h : Lf d) : ∀ n, Vs n d := fun n => by
  cases n with
  | zero => cases d <;> exact h
  | succ n => cases d <;> first | exact h | exact h.elim
theorem Vs.va : ∀ {n : Nat} {d : D}, Vs n d → Va n d
  | 0, d, h => by cases d <;> exact h
  | n + 1, .tup ds, h => ⟨by have := h.1; omega, fun d hd => Vs.va (h.2 d hd)⟩
  | n + 1, .lst ds, h => ⟨by have := h.1; omega, fun d hd => Vs.va (h.2 d hd)⟩
  | n + 1, .non, h => h
  | n + 1, .bl _, h => h
  | n + 1, .int _, h => h
  | n + 1, .str _, h => h
  | n + 1, .frz _, h => h
  | n + 1, .ref _, h => h
theorem Vs.succ : ∀ {n : Nat} {d : D}, Vs n d → Vs (n + 1) d
  | 0, d, h => Vs.lf (by cases d <;> exact h) 1
  | n + 1, .tup ds, h => ⟨h.1, fun d hd => Vs.succ (h.2 d hd)⟩
  | n + 1, .lst ds, h => ⟨h.1, fun d hd => Vs.succ (h.2 d hd)⟩
  | n + 1, .non, h => h
  | n + 1, .bl _, h => h
  | n + 1, .int _, h => h
  | n + 1, .str _, h => h
  | n + 1, .frz _, h => h
  | n + 1, .ref _, h => h
theorem Vs.mono {n m : Nat} {d : D} (h : Vs n d) (hm : n ≤ m) : Vs m d := by
  obtain ⟨k, rfl⟩ := Nat.exists_eq_add_of_le hm
  induction k with
  | zero => exact h
  | succ k ih => exact Vs.succ (ih (by omega))
theorem Vs.shp {n : Nat} {d : D} (h : Vs n d) : Shp n d := va_shp h.va
def lfB : D → Bool
  | .non => true
  | .bl _ => true
  | .int i => decide (i.natAbs < 10 ^ 100)
  | .str x => PyData.strOk x && decide (x.length ≤ 1000)
  | _ => false
def vaB : Nat → D → Bool
  | n + 1, .tup ds => decide (ds.length ≤ 1000) && ds.all (vaB n)
  | n + 1, .lst ds => decide (ds.length ≤ 1000) && ds.all (vaB n)
  | _, d => lfB d
theorem lf_of {d : D} (h : lfB d = true) : Lf d := by
  cases d with
  | int i => exact (of_decide_eq_true h : i.natAbs < 10 ^ 100)
  | str x =>
    have h : (PyData.strOk x && decide (x.length ≤ 1000)) = true := h
    rw [Bool.and_eq_true] at h
    exact ⟨h.1, of_decide_eq_true h.2⟩
  | non => trivial
  | bl _ => trivial
  | _ => cases h
theorem va_of : ∀ {n : Nat} {d : D}, vaB n d = true → Va n d
  | 0, d, h => Va.lf (lf_of (by cases d <;> exact h)) 0
  | n + 1, .tup ds, h => by
    have h : (decide (ds.length ≤ 1000) && ds.all (vaB n)) = true := h
    rw [Bool.and_eq_true, List.all_eq_true] at h
    exact ⟨of_decide_eq_true h.1, fun d hd => va_of (h.2 d hd)⟩
  | n + 1, .lst ds, h => by
    have h : (decide (ds.length ≤ 1000) && ds.all (vaB n)) = true := h
    rw [Bool.and_eq_true, List.all_eq_true] at h
    exact ⟨of_decide_eq_true h.1, fun d hd => va_of (h.2 d hd)⟩
  | n + 1, .non, h => lf_of h
  | n + 1, .bl _, h => lf_of h
  | n + 1, .int _, h => lf_of h
  | n + 1, .str _, h => lf_of h
  | n + 1, .frz _, h => lf_of h
  | n + 1, .ref _, h => lf_of h
def vsB : Nat → D → Bool
  | n + 1, .tup ds => decide (ds.length ≤ 63) && ds.all (vsB n)
  | n + 1, .lst ds => decide (ds.length ≤ 63) && ds.all (vsB n)
  | _, d => lfB d
theorem vs_of : ∀ {n : Nat} {d : D}, vsB n d = true → Vs n d
  | 0, d, h => Vs.lf (lf_of (by cases d <;> exact h)) 0
  | n + 1, .tup ds, h => by
    have h : (decide (ds.length ≤ 63) && ds.all (vsB n)) = true := h
    rw [Bool.and_eq_true, List.all_eq_true] at h
    exact ⟨of_decide_eq_true h.1, fun d hd => vs_of (h.2 d hd)⟩
  | n + 1, .lst ds, h => by
    have h : (decide (ds.length ≤ 63) && ds.all (vsB n)) = true := h
    rw [Bool.and_eq_true, List.all_eq_true] at h
    exact ⟨of_decide_eq_true h.1, fun d hd => vs_of (h.2 d hd)⟩
  | n + 1, .non, h => lf_of h
  | n + 1, .bl _, h => lf_of h
  | n + 1, .int _, h => lf_of h
  | n + 1, .str _, h => lf_of h
  | n + 1, .frz _, h => lf_of h
  | n + 1, .ref _, h => lf_of h
theorem vss_of {n : Nat} {ds : List D} (h : ds.all (vsB n) = true) : ∀ d ∈ ds, Vs n d := fun d hd => vs_of (List.all_eq_true.mp h d hd)
theorem vas_of {n : Nat} {ds : List D} (h : ds.all (vaB n) = true) : ∀ d ∈ ds, Va n d := fun d hd => va_of (List.all_eq_true.mp h d hd)
section
variable {n : Nat} {st : Sto} {Q : D → Sto → Prop}
theorem spec_strange (h : FOk n st) (q : ∀ x st', Vs 2 x → FOk n st' → Same n st st' → Q x st') : wp (m__law_strange [.ref n]) Q st := by
  refine w_run' [.val (.ref n), .no] rfl ?_
  unfold s__law_strange
  subst_eqs
  repeat (refine ⟨by decide, ?_⟩; subst_eqs)
  refine ⟨_, rfl, by decide, ?_⟩
  subst_eqs
  repeat (refine ⟨by decide, ?_⟩; subst_eqs)
  refine ⟨_, rfl, by decide, ?_⟩
  subst_eqs
  refine ⟨rfl, spec_pick h (by simp) (by decide) fun x st' hx f sm => ?_⟩
  subst_eqs
  exact q x st' (vss_of (by decide +kernel) x hx) f sm
/-- two tuples behind one another -/
theorem w_cat {xs ys : List D} {a b : Nat} (hx : xs.length ≤ a) (hy : ys.length ≤ b) (hab : a + b ≤ 10000) (k : ∀ r : List D, r.length ≤ a + b → (∀ y ∈ r, y ∈ xs ∨ y ∈ ys) → Q (.tup r) st) : wp (addM (.tup xs) (.tup ys)) Q st := by
  refine w_addT (small2 (by omega)) ?_
  exact k _ (by rw [List.length_append]; omega) fun y hy => List.mem_append.mp hy
theorem one_ok : 1 ≤ sizeLine := by decide
end
theorem lf_lw {x : Str} (h : Lw x) (hl : x.length ≤ 20) : Lf (.str x) := ⟨lw_ok h, by omega⟩
theorem lf_nat {i : Int} (h : i.natAbs ≤ 1000000000000000000000000000000000000000000000000000000000000) : Lf (.int i) := Nat.lt_of_le_of_lt h (by decide)
theorem lf_nu {i : Int} (h : Nu i) : Lf (.int i) := lf_nat (by have h1 := h.1; have h2 := h.2; omega)
theorem nm_lf {d : D} (h : NmD d) : Lf d := by
  obtain ⟨x, rfl, hx⟩ := h
  exact lf_lw hx.2.2 (by have := hx.2.1; omega)
theorem nu_lf {d : D} (h : NuD d) : Lf d := by
  obtain ⟨x, rfl, hx⟩ := h
  exact lf_nu hx
theorem lf_c {x : Str} (h : (PyData.strOk x && decide (x.length ≤ 1000)) = true) : Lf (.str x) := lf_of (d := .str x) h
theorem four_ok : 4 ≤ sizeLine := by decide
theorem va_three {a b c : D} {k : Nat} (ha : Va k a) (hb : Va k b) (hc : Va k c) : ∀ y ∈ [a, b, c], Va k y := fun y hy => by
  simp only [List.mem_cons, List.not_mem_nil, or_false] at hy
  rcases hy with rfl | rfl | rfl
  · exact ha
  · exact hb
  · exact hc
theorem lf_va {k : Nat} {d : D} (h : Lf d) : Va k d := Va.lf h k
end LK

set_option linter.all false
set_option maxRecDepth 100000
set_option maxHeartbeats 4000000
/-! A14: spoilt things. -/
namespace LK
open PySem PySem.Spec L2 PL PG
section
variable {n : Nat} {st : Sto} {Q : D → Sto → Prop}
/-! ### spoilt -/
theorem up_sg : ∀ c ∈ List.range 123, 97 ≤ c → Unicode.upperOf c = [c - 32] := by decide +kernel
theorem upper_len {x : Str} (h : Lw x) : (Txt.upper x).length = x.length ∧ ∀ c ∈ (Txt.upper x).cps.toList, c < 100 := by
  have e : (placed x fun _ c => Unicode.upperOf c) = x.cps.map fun c => c - 32 := by
    unfold placed
    have : (x.cps.mapIdx fun i c => (Unicode.upperOf c).toArray) = x.cps.map fun c => #[c - 32] := by
      apply Array.ext
      · simp
      · intro i h1 h2
        simp only [Array.getElem_mapIdx, Array.getElem_map]
        have hc := h (x.cps[i]'(by simpa using h2)) (Array.mem_toList_iff.mpr (Array.getElem_mem _))
        rw [up_sg _ (List.mem_range.mpr (by have := hc.2; omega)) hc.1]
    rw [this]
    apply Array.toList_inj.mp
    rw [Array.toList_flatten]
    simp [List.map_map, Function.comp_def]
    generalize x.cps.toList = l
    induction l with
    | nil => rfl
    | cons c l ih => simp [ih]
  constructor
  · show (placed x _).size = _
    rw [e, Array.size_map]; rfl
  · intro c hc
    have hc : c ∈ (placed x fun _ c => Unicode.upperOf c).toList := hc
    rw [e, Array.toList_map, List.mem_map] at hc
    obtain ⟨d, hd, rfl⟩ := hc
    have := (h d hd).2
    omega
def spH (m_rec : List D → M D) : En → M (Fl × En) := sIf (tAn (tBl (e1 (isiM "tuple") (eVar 1))) (tAn (tBl (e2 neM (eVar 1) (eTup (aNil)))) (tBl (e2 gtM (eCall 2 PG.m_law_draw (aCons (eVar 0) (aCons (eC (.int 5)) (aNil)))) (eC (.int 0)))))) (sSeq (sSet 2 (eCall 2 PG.m_law_draw (aCons (eVar 0) (aCons (e1 lenM (eVar 1)) (aNil))))) (sRet (e2 addBM (e2 addBM (eSl (eVar 1) oNo (oSo (eVar 2))) (eTup (aCons (eCall 2 m_rec (aCons (eVar 0) (aCons (e2 ixM (eVar 1) (eVar 2)) (aNil)))) (aNil)))) (eSl (eVar 1) (oSo (e2 addBM (eVar 2) (eC (.int 1)))) oNo)))) (sNil)
def spR : En → M (Fl × En) := sSeq (sPar 3 4 (eCall 2 PG.m_law_draw (aCons (eVar 0) (aCons (eC (.int 7)) (aNil)))) (eCall 1 m__law_strange (aCons (eVar 0) (aNil)))) (sSeq (sIf (tAn (tBl (e1 (isiM "tuple") (eVar 1))) (tBl (e2 ltM (eVar 3) (eC (.int 5))))) (sSeq (sSet 2 (eCall 2 PG.m_law_draw (aCons (eVar 0) (aCons (e2 addBM (e1 lenM (eVar 1)) (eC (.int 1))) (aNil))))) (sSeq (sIf (tBl (e2 inM (eVar 3) (eTup (aCons (eC (.int 0)) (aCons (eC (.int 3)) (aNil)))))) (sRet (eIf (tBl (e2 eqM (eVar 3) (eC (.int 0)))) (e1 lstM (eVar 1)) (e2 addBM (eSl (eVar 1) (oSo (eVar 2)) oNo) (eSl (eVar 1) oNo (oSo (eVar 2)))))) (sNil)) (sSeq (sSet 5 (eIf (tBl (e2 eqM (eVar 3) (eC (.int 4)))) (eTup (aCons (eVar 4) (aNil))) (eIf (tBl (e2 eqM (eVar 3) (eC (.int 2)))) (eSl (eVar 1) (oSo (eVar 2)) (oSo (e2 addBM (eVar 2) (eC (.int 1))))) (eTup (aNil))))) (sRet (e2 addBM (e2 addBM (eSl (eVar 1) oNo (oSo (eVar 2))) (eVar 5)) (eSl (eVar 1) (oSo (e2 addBM (eVar 2) (eIf (tBl (e2 eqM (eVar 3) (eC (.int 1)))) (eC (.int 1)) (eC (.int 0))))) oNo)))))) (sNil)) (sSeq (sIf (tAn (tBl (e1 (isiM "str") (eVar 1))) (tBl (e2 ltM (eVar 3) (eC (.int 5))))) (sSeq (sIf (tBl (e2 ltM (eVar 3) (eC (.int 2)))) (sRet (eIf (tBl (e2 eqM (eVar 3) (eC (.int 0)))) (e2 addBM (eVar 1) (eC (.str "a"))) (eSl (eVar 1) (oSo (eC (.int 1))) oNo))) (sNil)) (sRet (eIf (tBl (e2 eqM (eVar 3) (eC (.int 2)))) (e2 addBM (eC (.str "a")) (eVar 1)) (eIf (tBl (e2 eqM (eVar 3) (eC (.int 3)))) (e1 upperM (eVar 1)) (e2 addBM (eVar 1) (eC (.str " "))))))) (sNil)) (sSeq (sIf (tAn (tBl (e1 (isiM "int") (eVar 1))) (tBl (e2 ltM (eVar 3) (eC (.int 5))))) (sSeq (sIf (tBl (e2 ltM (eVar 3) (eC (.int 2)))) (sRet (eIf (tBl (e2 eqM (eVar 3) (eC (.int 0)))) (e2 addBM (eVar 1) (eC (.int 1))) (eNegB (eVar 1)))) (sNil)) (sRet (eIf (tBl (e2 eqM (eVar 3) (eC (.int 2)))) (e1 strBM (eVar 1)) (eIf (tBl (e2 eqM (eVar 3) (eC (.int 3)))) (e2 eqM (eVar 1) (eC (.int 1))) (e2 subBM (eVar 1) (eC (.int 1))))))) (sNil)) (sRet (eVar 4)))))
theorem sp_split (r : List D → M D) : s__law_spoilt r = sSeq (spH r) spR := rfl
def Sp : Nat → D → Prop
  | n + 1, .tup ds => ds.length ≤ 20 ∧ ∀ d ∈ ds, Sp n d
  | _, .str x => Lw x ∧ x.length ≤ 20
  | _, .int i => Nu i
  | _, _ => False
theorem Sp.va : ∀ {n : Nat} {d : D}, Sp n d → Vs n d
  | 0, .str x, h => lf_lw h.1 h.2
  | _ + 1, .str x, h => lf_lw h.1 h.2
  | 0, .int i, h => lf_nu h
  | _ + 1, .int i, h => lf_nu h
  | n + 1, .tup ds, h => ⟨by have := h.1; omega, fun d hd => Sp.va (h.2 d hd)⟩
  | 0, .tup _, h => h.elim
  | 0, .lst _, h => h.elim
  | 0, .frz _, h => h.elim
  | 0, .ref _, h => h.elim
  | 0, .bl _, h => h.elim
  | 0, .non, h => h.elim
  | _ + 1, .lst _, h => h.elim
  | _ + 1, .frz _, h => h.elim
  | _ + 1, .ref _, h => h.elim
  | _ + 1, .bl _, h => h.elim
  | _ + 1, .non, h => h.elim
theorem w_eqb {i j : Int} (k : ∀ b : Bool, Q (.bl b) st) : wp (eqM (.int i) (.int j)) Q st := w_eq shp_int.shp shp_int.shp (k _)
theorem w_inb {x : D} {xs : List D} (hx : x.shp = true) (hy : (D.tup xs).shp = true) (k : ∀ b : Bool, Q (.bl b) st) : wp (inM x (.tup xs)) Q st := w_in rfl hx hy (k _)
theorem w_catB {xs ys : List D} {a b : Nat} (hx : xs.length ≤ a) (hy : ys.length ≤ b) (hab : a + b ≤ 10000) (k : ∀ r : List D, r.length ≤ a + b → (∀ y ∈ r, y ∈ xs ∨ y ∈ ys) → Q (.tup r) st) : wp (addBM (.tup xs) (.tup ys)) Q st := w_cat hx hy hab k
theorem w_lstT {xs : List D} (k : Q (.lst xs) st) : wp (lstM (.tup xs)) Q st := ⟨k⟩
theorem w_negB {ρ : En} {f : En → M D} (k : wp (f ρ) (fun d s => ∃ i, d = .int i ∧ Q (.int (-i)) s) st) : wp (eNegB f ρ) Q st := by
  unfold eNegB
  rw [wp_bind]
  refine wp_mono k ?_
  rintro d s ⟨i, rfl, hQ⟩
  exact ⟨hQ⟩
theorem w_aB {i j : Int} (k : Q (.int (i + j)) st) : wp (addBM (.int i) (.int j)) Q st := w_addI k
theorem w_sB {i j : Int} (k : Q (.int (i - j)) st) : wp (subBM (.int i) (.int j)) Q st := ⟨k⟩
theorem w_strB {x y : Str} {a b : Nat} (hx : PyData.strOk x = true) (hy : PyData.strOk y = true) (lx : x.length ≤ a) (ly : y.length ≤ b) (hab : a + b ≤ 1000) (k : ∀ z : Str, Lf (.str z) → Q (.str z) st) : wp (addBM (.str x) (.str y)) Q st := by
  refine w_addS (small2 (by omega)) (k _ ⟨?_, by rw [len_app]; omega⟩)
  unfold PyData.strOk at *
  rw [Array.all_eq_true_iff_forall_mem] at *
  intro c hc
  rcases Array.mem_append.mp (show c ∈ x.cps ++ y.cps from hc) with h | h
  · exact hx c h
  · exact hy c h
def numT (i : Int) : Str := toString i
theorem num_cps {i : Int} (h : 0 ≤ i) : (numT i).cps.toList = TL.numL i.toNat := by
  obtain ⟨n, rfl⟩ := Int.eq_ofNat_of_zero_le h
  exact TL.tl_num n
theorem num_lf {i : Int} (h : Nu i) : Lf (.str (numT i)) := by
  constructor
  · unfold PyData.strOk
    rw [Array.all_eq_true_iff_forall_mem]
    intro c hc
    have hc := Array.mem_toList_iff.mpr hc
    rw [num_cps h.1] at hc
    have := TL.numL_digits i.toNat c hc
    exact decide_eq_true (by omega)
  · rw [len_cps, num_cps h.1]
    refine Nat.le_trans (TL.numL_len (k := 60) (by decide) ?_) (by decide)
    have h1 := h.1
    have h2 := h.2
    have h3 : (10 : Nat) ^ 60 = 1000000000000000000000000000000000000000000000000000000000000 := by decide
    rw [h3]; omega
theorem w_numB {i : Int} (h : Nu i) (k : Q (.str (numT i)) st) : wp (strBM (.int i)) Q st := by
  show wp (guardM _ _) Q st
  rw [wp_guard]
  refine ⟨decide_eq_true ?_, ⟨k⟩⟩
  have h1 := h.1
  have h2 := h.2
  have h3 : i.natAbs < 2 ^ 200 := by
    have e : (2 : Nat) ^ 200 = 1606938044258990275541962092341162602522202993782792835301376 := by decide
    rw [e]; omega
  by_cases h0 : i.natAbs = 0
  · rw [h0]; decide
  · have := (Nat.log2_lt h0).mpr h3
    omega
theorem upper_lf {x : Str} (h : Lw x) (hl : x.length ≤ 20) : Lf (.str (Txt.upper x)) := by
  obtain ⟨h1, h2⟩ := upper_len h
  refine ⟨?_, by omega⟩
  unfold PyData.strOk
  rw [Array.all_eq_true_iff_forall_mem]
  intro c hc
  have := h2 c (Array.mem_toList_iff.mpr hc)
  exact decide_eq_true (by omega)
theorem w_up {x : Str} (h : x.length ≤ 5592405) (k : Q (.str (Txt.upper x)) st) : wp (upperM (.str x)) Q st := by
  show wp (guardM _ _) Q st
  rw [wp_guard]; exact ⟨decide_eq_true h, ⟨k⟩⟩
theorem cutS_lf {x : Str} (h : Lw x) (hl : x.length ≤ 20) {l u : Option Int} : Lf (.str (cutS x l u)) := by
  have hm : ∀ c ∈ (cutS x l u).cps.toList, c ∈ x.cps.toList := fun c hc => List.mem_of_mem_drop (List.mem_of_mem_take hc)
  have hn : (cutS x l u).cps.toList.length ≤ x.cps.toList.length := by
    unfold cutS
    show (List.take _ (List.drop _ _)).length ≤ _
    rw [List.length_take, List.length_drop]; omega
  rw [← len_cps, ← len_cps] at hn
  exact ⟨lw_ok fun c hc => h c (hm c hc), by omega⟩
theorem sp_rest {m k : Nat} {d : D} (hd : Sp m d) (h : FOk k st) (q : ∀ x st', Vs (m + 3) x → FOk k st' → Same k st st' → Q x st') : wp (spR [.val (.ref k), .val d, .no, .no, .no, .no]) (RunK Q) st := by
  unfold spR
  subst_eqs
  refine ⟨rfl, spec_draw h (by decide) (by decide) fun way s1 w0 w1 f1 m1 => ?_⟩
  subst_eqs
  refine ⟨rfl, spec_strange f1 fun x s2 hx f2 m2 => ?_⟩
  have sm := m1.trans m2
  have q2 : ∀ y, Vs (m + 3) y → Q y s2 := fun y hy => q y s2 hy f2 sm
  have leaf : ∀ y, Lf y → Q y s2 := fun y hy => q2 y (Vs.lf hy _)
  have hx3 : Vs (m + 3) x := hx.mono (by omega)
  cases d with
  | tup ds =>
    have hl : ds.length ≤ 20 := by cases m with
      | zero => exact hd.elim
      | succ m => exact hd.1
    have hv : ∀ y ∈ ds, Vs (m + 2) y := by cases m with
      | zero => exact hd.elim
      | succ m => exact fun y hy => (hd.2 y hy).va.mono (by omega)
    subst_eqs
    refine k_if (fun _ => ?_) fun _ => ?_
    · subst_eqs
      refine w_aB ?_
      subst_eqs
      refine ⟨rfl, spec_draw f2 (by omega) (by omega) fun j s3 j0 j1 f3 m3 => ?_⟩
      have q3 : ∀ y, Vs (m + 3) y → Q y s3 := fun y hy => q y s3 hy f3 (sm.trans m3)
      have r3 : ∀ r : List D, r.length ≤ 63 → (∀ y ∈ r, Vs (m + 2) y) → Q (.tup r) s3 := fun r h1 h2 => q3 _ ⟨h1, h2⟩
      subst_eqs
      repeat (refine ⟨by decide, ?_⟩; subst_eqs)
      refine w_inb shp_int.shp (by decide +kernel) fun b => ?_
      cases b with
      | true =>
        subst_eqs
        refine w_eqb fun b => ?_
        cases b with
        | true =>
          subst_eqs
          refine w_lstT ?_
          subst_eqs
          exact q3 (.lst ds) ⟨by omega, hv⟩
        | false =>
          subst_eqs
          refine w_catB (cut_len ds _ _) (cut_len ds _ _) (by omega) fun r hr hm => ?_
          subst_eqs
          exact r3 r (by omega) fun y hy => hv y ((hm y hy).elim cut_mem cut_mem)
      | false =>
        subst_eqs
        refine w_eqb fun b => ?_
        cases b with
        | true =>
          subst_eqs
          refine ⟨one_ok, ?_⟩
          subst_eqs
          refine w_catB (cut_len ds _ _) (Nat.le_refl 1) (by omega) fun r hr hm => ?_
          subst_eqs
          refine w_eqb fun b => ?_
          cases b
          all_goals
            subst_eqs
            refine w_aB ?_
            subst_eqs
            refine w_catB hr (cut_len ds _ _) (by omega) fun r2 hr2 hm2 => ?_
            subst_eqs
            refine r3 r2 (by omega) fun y hy => ?_
            rcases hm2 y hy with hy | hy
            · rcases hm y hy with hy | hy
              · exact hv y (cut_mem hy)
              · rw [List.mem_singleton.mp hy]; exact hx.mono (by omega)
            · exact hv y (cut_mem hy)
        | false =>
          subst_eqs
          refine w_eqb fun b => ?_
          cases b with
          | true =>
            subst_eqs
            refine w_aB ?_
            subst_eqs
            refine w_catB (cut_len ds _ _) (cut_len ds _ _) (by omega) fun r hr hm => ?_
            subst_eqs
            refine w_eqb fun b => ?_
            cases b
            all_goals
              subst_eqs
              refine w_aB ?_
              subst_eqs
              refine w_catB hr (cut_len ds _ _) (by omega) fun r2 hr2 hm2 => ?_
              subst_eqs
              refine r3 r2 (by omega) fun y hy => ?_
              rcases hm2 y hy with hy | hy
              · rcases hm y hy with hy | hy
                · exact hv y (cut_mem hy)
                · exact hv y (cut_mem hy)
              · exact hv y (cut_mem hy)
          | false =>
            subst_eqs
            refine ⟨by decide, ?_⟩
            subst_eqs
            refine w_catB (cut_len ds _ _) (Nat.le_refl 0) (by omega) fun r hr hm => ?_
            subst_eqs
            refine w_eqb fun b => ?_
            cases b
            all_goals
              subst_eqs
              refine w_aB ?_
              subst_eqs
              refine w_catB hr (cut_len ds _ _) (by omega) fun r2 hr2 hm2 => ?_
              subst_eqs
              refine r3 r2 (by omega) fun y hy => ?_
              rcases hm2 y hy with hy | hy
              · rcases hm y hy with hy | hy
                · exact hv y (cut_mem hy)
                · exact absurd hy List.not_mem_nil
              · exact hv y (cut_mem hy)
    · subst_eqs
      exact q2 x hx3
  | str y =>
    have hy : Lw y ∧ y.length ≤ 20 := by cases m <;> exact hd
    have a_ok : PyData.strOk ("a" : Str) = true := by decide +kernel
    have sp_ok : PyData.strOk (" " : Str) = true := by decide +kernel
    subst_eqs
    refine k_if (fun _ => ?_) fun _ => ?_
    · subst_eqs
      refine k_if (fun _ => ?_) fun _ => ?_
      · subst_eqs
        refine w_eqb fun b => ?_
        cases b with
        | true =>
          subst_eqs
          refine w_strB (lw_ok hy.1) a_ok hy.2 (Nat.le_refl 1) (by decide) fun z hz => ?_
          subst_eqs
          exact leaf _ hz
        | false =>
          subst_eqs
          refine w_slS (small2 (by omega)) ?_
          subst_eqs
          exact leaf _ (cutS_lf hy.1 hy.2)
      · subst_eqs
        refine w_eqb fun b => ?_
        cases b with
        | true =>
          subst_eqs
          refine w_strB a_ok (lw_ok hy.1) (Nat.le_refl 1) hy.2 (by decide) fun z hz => ?_
          subst_eqs
          exact leaf _ hz
        | false =>
          subst_eqs
          refine w_eqb fun b => ?_
          cases b with
          | true =>
            subst_eqs
            refine w_up (by omega) ?_
            subst_eqs
            exact leaf _ (upper_lf hy.1 hy.2)
          | false =>
            subst_eqs
            refine w_strB (lw_ok hy.1) sp_ok hy.2 (Nat.le_refl 1) (by decide) fun z hz => ?_
            subst_eqs
            exact leaf _ hz
    · subst_eqs
      exact q2 x hx3
  | int i =>
    have hi : Nu i := by cases m <;> exact hd
    have h1 := hi.1
    have h2 := hi.2
    subst_eqs
    refine k_if (fun _ => ?_) fun _ => ?_
    · subst_eqs
      refine k_if (fun _ => ?_) fun _ => ?_
      · subst_eqs
        refine w_eqb fun b => ?_
        cases b with
        | true =>
          subst_eqs
          refine w_aB ?_
          subst_eqs
          exact leaf _ (lf_nat (by omega))
        | false =>
          subst_eqs
          refine w_negB ?_
          subst_eqs
          refine ⟨_, rfl, ?_⟩
          subst_eqs
          exact leaf _ (lf_nat (by omega))
      · subst_eqs
        refine w_eqb fun b => ?_
        cases b with
        | true =>
          subst_eqs
          refine w_numB hi ?_
          subst_eqs
          exact leaf _ (num_lf hi)
        | false =>
          subst_eqs
          refine w_eqb fun b => ?_
          cases b with
          | true =>
            subst_eqs
            refine w_eqb fun b => ?_
            subst_eqs
            exact leaf _ trivial
          | false =>
            subst_eqs
            refine w_sB ?_
            subst_eqs
            exact leaf _ (lf_nat (by omega))
    · subst_eqs
      exact q2 x hx3
  | _ => cases m <;> exact hd.elim
end
section
variable {n : Nat} {st : Sto} {Q : D → Sto → Prop}
theorem sp_step {m k : Nat} {d : D} {r : List D → M D} (hm : m ≤ 60) (hd : Sp m d) (h : FOk k st) (hr : ∀ ds, d = .tup ds → ∀ y ∈ ds, ∀ (s : Sto) (R : D → Sto → Prop), FOk k s → (∀ x s', Vs (m + 2) x → FOk k s' → Same k s s' → R x s') → wp (r [.ref k, y]) R s)
    (q : ∀ x st', Vs (m + 3) x → FOk k st' → Same k st st' → Q x st') : wp (runB 6 (s__law_spoilt r) [.ref k, d]) Q st := by
  refine w_run' [.val (.ref k), .val d, .no, .no, .no, .no] rfl ?_
  rw [sp_split]
  refine w_seq ?_
  unfold spH
  cases d with
  | tup ds =>
    have hl : ds.length ≤ 20 := by cases m with
      | zero => exact hd.elim
      | succ m => exact hd.1
    have hv : ∀ y ∈ ds, Vs (m + 2) y := by cases m with
      | zero => exact hd.elim
      | succ m => exact fun y hy => (hd.2 y hy).va.mono (by omega)
    subst_eqs
    refine ⟨by decide, ?_⟩
    subst_eqs
    refine w_ne (hd.va.shp.shp (by omega)) shp_nil ?_
    rw [eqv_tt, eqvL_nil]
    cases ds with
    | nil =>
      refine k_bl ?_
      refine k_ifF ?_
      subst_eqs
      exact sp_rest hd h q
    | cons y0 ys =>
      refine k_bl ?_
      refine k_ifT ?_
      subst_eqs
      refine ⟨rfl, spec_draw h (by decide) (by decide) fun z s1 z0 z1 f1 m1 => ?_⟩
      subst_eqs
      refine k_if (fun _ => ?_) fun _ => ?_
      · generalize hds : y0 :: ys = ds at *
        have hne : 0 < ds.length := by rw [← hds]; simp
        subst_eqs
        refine ⟨rfl, spec_draw f1 (by omega) (by omega) fun j s2 j0 j1 f2 m2 => ?_⟩
        obtain ⟨y, hy, hym⟩ := atI_lt (xs := ds) j0 j1
        subst_eqs
        refine w_ixT hy ?_
        subst_eqs
        refine ⟨rfl, hr ds rfl y hym _ _ f2 fun x s3 hx f3 m3 => ?_⟩
        subst_eqs
        refine ⟨one_ok, ?_⟩
        subst_eqs
        refine w_catB (cut_len ds _ _) (Nat.le_refl 1) (by omega) fun r hr hm => ?_
        subst_eqs
        refine w_aB ?_
        subst_eqs
        refine w_catB hr (cut_len ds _ _) (by omega) fun r2 hr2 hm2 => ?_
        subst_eqs
        refine q _ s3 ⟨by omega, fun y hy => ?_⟩ f3 ((m1.trans m2).trans m3)
        rcases hm2 y hy with hy | hy
        · rcases hm y hy with hy | hy
          · exact hv y (cut_mem hy)
          · rw [List.mem_singleton.mp hy]; exact hx
        · exact hv y (cut_mem hy)
      · subst_eqs
        exact sp_rest hd f1 fun x s2 hx f2 m2 => q x s2 hx f2 (m1.trans m2)
  | str y =>
    subst_eqs
    exact sp_rest hd h q
  | int i =>
    subst_eqs
    exact sp_rest hd h q
  | _ => cases m <;> exact hd.elim
theorem spec_spoilt : ∀ (f m : Nat) (d : D) {k : Nat} {st : Sto} {Q : D → Sto → Prop}, m ≤ 60 → m ≤ f → Sp m d → FOk k st → (∀ x st', Vs (m + 3) x → FOk k st' → Same k st st' → Q x st') → wp (m__law_spoilt (f + 1) [.ref k, d]) Q st := by
  intro f
  induction f with
  | zero =>
    intro m d k st Q h60 hm hd h q
    refine sp_step (by omega) hd h (fun ds e y hy => ?_) q
    have : m = 0 := by omega
    subst this; subst e; exact hd.elim
  | succ f ih =>
    intro m d k st Q h60 hm hd h q
    refine sp_step (by omega) hd h (fun ds e y hy s R hs hR => ?_) q
    subst e
    cases m with
    | zero => exact hd.elim
    | succ m => exact ih m y (by omega) (by omega) (hd.2 y hy) hs hR
end
end LK

set_option linter.all false
set_option maxRecDepth 100000
set_option maxHeartbeats 4000000
/-! A15: the things that are judged. -/
namespace LK
open PySem PySem.Spec L2 PL PG
theorem Vs.vk : ∀ {n : Nat} {d : D}, Vs n d → Vk n d
  | 0, d, h => by cases d <;> exact h
  | n + 1, .tup ds, h => ⟨by have := h.1; omega, .inl (by have := h.1; omega), fun d hd => Vs.vk (h.2 d hd)⟩
  | n + 1, .lst ds, h => ⟨by have := h.1; omega, fun d hd => Vs.vk (h.2 d hd)⟩
  | n + 1, .non, h => h
  | n + 1, .bl _, h => h
  | n + 1, .int _, h => h
  | n + 1, .str _, h => h
  | n + 1, .frz _, h => h
  | n + 1, .ref _, h => h
theorem Vs.ak {n : Nat} {d : D} (h : Vs n d) (hn : n ≤ 60 := by decide) : Ak d := Vk.mono h.vk hn
theorem Sp.ak {n : Nat} {d : D} (h : Sp n d) (hn : n ≤ 60 := by decide) : Ak d := h.va.ak hn
theorem aks_of {n : Nat} {ds : List D} (h : ds.all (vsB n) = true) (hn : n ≤ 60 := by decide) : ∀ d ∈ ds, Ak d := fun d hd => (vss_of h d hd).ak hn
theorem mem4 {a b c d : D} {P : D → Prop} (ha : P a) (hb : P b) (hc : P c) (hd : P d) : ∀ y ∈ [a, b, c, d], P y := fun y hy => by
  simp only [List.mem_cons, List.not_mem_nil, or_false] at hy
  rcases hy with rfl | rfl | rfl | rfl
  · exact ha
  · exact hb
  · exact hc
  · exact hd
theorem mem2 {a b : D} {P : D → Prop} (ha : P a) (hb : P b) : ∀ y ∈ [a, b], P y := fun y hy => by
  simp only [List.mem_cons, List.not_mem_nil, or_false] at hy
  rcases hy with rfl | rfl
  · exact ha
  · exact hb
theorem mem3 {a b c : D} {P : D → Prop} (ha : P a) (hb : P b) (hc : P c) : ∀ y ∈ [a, b, c], P y := fun y hy => by
  simp only [List.mem_cons, List.not_mem_nil, or_false] at hy
  rcases hy with rfl | rfl | rfl
  · exact ha
  · exact hb
  · exact hc
theorem sp_nm {d : D} (h : NmD d) (n : Nat) : Sp n d := by
  obtain ⟨x, rfl, hx⟩ := h
  have : Lw x ∧ x.length ≤ 20 := ⟨hx.2.2, by have := hx.2.1; omega⟩
  cases n <;> exact this
theorem sp_nu {d : D} (h : NuD d) (n : Nat) : Sp n d := by
  obtain ⟨i, rfl, hi⟩ := h
  cases n <;> exact hi
def lwB (x : Str) : Bool := (x.cps.toList.all fun c => decide (97 ≤ c) && decide (c ≤ 122)) && decide (x.length ≤ 20)
theorem sp_w {x : Str} (h : lwB x = true) (n : Nat) : Sp n (.str x) := by
  unfold lwB at h
  simp only [Bool.and_eq_true, List.all_eq_true, decide_eq_true_eq] at h
  have : Lw x ∧ x.length ≤ 20 := ⟨fun c hc => h.1 c hc, h.2⟩
  cases n <;> exact this
theorem sp_i {i : Int} (h0 : 0 ≤ i) (h1 : i < 1000) (n : Nat) : Sp n (.int i) := by
  have : Nu i := ⟨h0, by omega⟩
  cases n <;> exact this
theorem sp_up : ∀ {n : Nat} {d : D}, Sp n d → Sp (n + 1) d
  | 0, .str _, h => h
  | _ + 1, .str _, h => h
  | 0, .int _, h => h
  | _ + 1, .int _, h => h
  | n + 1, .tup ds, h => ⟨h.1, fun d hd => sp_up (h.2 d hd)⟩
  | 0, .tup _, h => h.elim
  | 0, .lst _, h => h.elim
  | 0, .frz _, h => h.elim
  | 0, .ref _, h => h.elim
  | 0, .bl _, h => h.elim
  | 0, .non, h => h.elim
  | _ + 1, .lst _, h => h.elim
  | _ + 1, .frz _, h => h.elim
  | _ + 1, .ref _, h => h.elim
  | _ + 1, .bl _, h => h.elim
  | _ + 1, .non, h => h.elim
theorem sp_mono {n m : Nat} {d : D} (h : Sp n d) (hm : n ≤ m) : Sp m d := by
  obtain ⟨k, rfl⟩ := Nat.exists_eq_add_of_le hm
  induction k with
  | zero => exact h
  | succ k ih => exact sp_up (ih (by omega))
theorem sp_do {d : D} (h : Do d) : Sp 1 d := by
  rcases h with ⟨a, ha, rfl⟩ | ⟨w, a, b, hw, ha, hb, rfl⟩
  · exact ⟨by simp, mem2 (sp_w (by decide +kernel) 0) (sp_nm ha 0)⟩
  · refine ⟨by simp, mem3 ?_ (sp_nm ha 0) (sp_nm hb 0)⟩
    rcases hw with rfl | rfl <;> exact sp_w (by decide +kernel) 0
theorem sp_ar {d : D} (h : Ar d) : Sp 2 d := by
  obtain ⟨p, g, l, hp, hg, hl, rfl⟩ := h
  exact ⟨by simp, mem3 (sp_nu hp 1) (sp_do hg) (sp_nu hl 1)⟩
theorem sp_pa {d : D} (h : Pa d) : ∃ a es as, d = .tup [a, .tup es, .tup as] ∧ Sp 3 a ∧ Sp 3 (.tup es) ∧ Sp 3 (.tup as) ∧ (∀ x ∈ as, Ar x) ∧ Sp 4 d := by
  obtain ⟨a, es, as, ha, _, he, hel, has, hal, rfl⟩ := h
  have h2 : Sp 3 (.tup (es.map D.int)) := ⟨by rw [List.length_map]; omega, fun x hx => by
    obtain ⟨i, hi, rfl⟩ := List.mem_map.mp hx
    exact sp_nu ⟨i, rfl, he i hi⟩ 2⟩
  have h3 : Sp 3 (.tup as) := ⟨by omega, fun x hx => sp_ar (has x hx)⟩
  exact ⟨a, _, as, rfl, sp_nm ha 3, h2, h3, has, by simp, mem3 (sp_nm ha 3) h2 h3⟩
theorem sp_ch {d : D} (h : Ch d) : ∃ a b c f, d = .tup [a, b, c, f] ∧ Sp 0 a ∧ Sp 0 f ∧ Sp 1 d := by
  obtain ⟨a, b, c, f, ha, hb, hc, hf, rfl⟩ := h
  have hf2 : Sp 0 (.str f) := by rcases hf with rfl | rfl | rfl <;> exact sp_w (by decide +kernel) 0
  exact ⟨a, b, c, _, rfl, sp_nm ha 0, hf2, by simp, mem4 (sp_nm ha 0) (sp_nm hb 0) (sp_nm hc 0) hf2⟩
section
variable {st : Sto} {Q : D → Sto → Prop} {n : Nat}
/-- a comprehension's test that is never true, though the store changes -/
theorem lc_noneF {set : D → En → Option En} {tt : En → M Bool} {te : En → M D} {ρ : En} (F : Sto → Prop) : ∀ (ds : List D) (st : Sto) {R : List D → Sto → Prop}, (∀ d ∈ ds, ∀ s, F s → ∃ ρ', set d ρ = some ρ' ∧ wp (tt ρ') (fun b s' => b = false ∧ F s') s) → F st → (∀ s', F s' → R [] s') → wp (lcL set tt te ρ ds) R st
  | [], st, R, _, hF, k => by
    show wp (M.pure _) R st
    rw [wp_pure]; exact k st hF
  | d :: ds, st, R, hs, hF, k => by
    obtain ⟨ρ', e, h⟩ := hs d List.mem_cons_self st hF
    show wp ((opt (set d ρ)).bind _) R st
    rw [wp_bind, e, wp_some, wp_bind]
    refine wp_mono h ?_
    rintro b s' ⟨rfl, hF'⟩
    rw [if_neg (by decide)]
    exact lc_noneF F ds s' (fun z hz => hs z (List.mem_cons_of_mem _ hz)) hF' k
theorem spec_things (q : ∀ xs, (∀ x ∈ xs, Ak x) → xs.length ≤ 100 → Q (.lst xs) st) : wp (m__law_plain_things []) Q st := by
  refine w_run' [.no] rfl ?_
  unfold s__law_plain_things
  subst_eqs
  repeat (refine ⟨by decide, ?_⟩; subst_eqs)
  refine ⟨_, rfl, by decide, ?_⟩
  subst_eqs
  exact q _ (aks_of (n := 3) (by decide +kernel)) (by decide)
theorem spec_tuples (q : ∀ xs, (∀ x ∈ xs, Ak x) → xs.length ≤ 100 → Q (.lst xs) st) : wp (m__law_plain_tuples []) Q st := by
  refine w_run' [.no] rfl ?_
  unfold s__law_plain_tuples
  subst_eqs
  repeat (first | (refine ⟨by decide, ?_⟩; subst_eqs) | (refine ⟨_, rfl, by decide, ?_⟩; subst_eqs))
  exact q _ (aks_of (n := 9) (by decide +kernel)) (by decide)
theorem spec_parts {x : D} (hx : Pr x) (h : FOk n st) (q : ∀ ys st', (∀ y ∈ ys, Sp 6 y) → ys.length ≤ 30 → FOk n st' → Same n st st' → Q (.lst ys) st') : wp (m__law_parts [.ref n, x]) Q st := by
  obtain ⟨ps, cs, hp, hpl, hc, hcl, rfl⟩ := hx
  have sps : Sp 5 (.tup ps) := ⟨by omega, fun p h => (sp_pa (hp p h)).choose_spec.choose_spec.choose_spec.2.2.2.2.2⟩
  have scs : Sp 5 (.tup cs) := ⟨by omega, fun c h => sp_mono (n := 1) (sp_ch (hc c h)).choose_spec.choose_spec.choose_spec.choose_spec.2.2.2 (by decide)⟩
  have spr : Sp 6 (.tup [.tup ps, .tup cs]) := ⟨by simp, mem2 sps scs⟩
  refine w_run' [.val (.ref n), .val (.tup [.tup ps, .tup cs]), .no, .no, .no, .no] rfl ?_
  unfold s__law_parts
  subst_eqs
  refine w_ixT at0 ?_
  subst_eqs
  refine w_ixT at1 ?_
  subst_eqs
  refine ⟨three_ok, ?_⟩
  subst_eqs
  refine w_ixT at1 ?_
  subst_eqs
  refine ⟨_, rfl, ?_⟩
  have hcut : (cutD cs none (some 2)).length ≤ 2 := by
    have := cut_take (xs := cs) (m := 2)
    unfold cutD
    rw [HT.sIx_none]
    show (List.take (HT.sIx cs.length cs.length (some ((2 : Nat) : Int)) - 0) _).length ≤ 2
    rw [HT.sIx_nat, List.length_take]; omega
  refine for_each (fun j ρ s => s = st ∧ ∃ x3 out, ρ = [.val (.ref n), .val (.tup [.tup ps, .tup cs]), .own out, x3, .no, .no] ∧ (∀ y ∈ out, Sp 6 y) ∧ out.length = 3 + 3 * j) _ 0 _ _ ?_ ⟨rfl, _, _, rfl, mem3 spr (sp_up sps) (sp_up scs), rfl⟩ ?_
  · rintro m d ρ s hm ⟨rfl, x3, out, rfl, hout, hol⟩
    obtain ⟨a, b, c, f, rfl, ha, hf, hd⟩ := sp_ch (hc d (cut_mem (List.mem_of_getElem? hm)))
    have hml := (List.getElem?_eq_some_iff.mp hm).1
    refine ⟨_, set_nm (by simp), ?_⟩
    subst_eqs
    refine w_ixT at0 ?_
    subst_eqs
    refine w_ixT at3 ?_
    subst_eqs
    refine ⟨three_ok, ?_⟩
    refine ⟨_, rfl, small2 (by simp only [List.length_cons, List.length_nil]; omega), ?_⟩
    refine ⟨rfl, rfl, _, _, rfl, fun y hy => ?_, by rw [List.length_append]; simp only [List.length_cons, List.length_nil]; omega⟩
    rcases List.mem_append.mp hy with hy | hy
    · exact hout y hy
    · exact mem3 (P := Sp 6) (sp_mono hd (by decide)) (sp_mono ha (by decide)) (sp_mono hf (by decide)) y hy
  · rintro ρ s ⟨rfl, x3, out, rfl, hout, hol⟩
    have hps : (D.tup ps).shp = true := (va_shp (Vs.va sps.va)).shp
    subst_eqs
    refine w_ixT at0 ?_
    subst_eqs
    refine ⟨by decide, ?_⟩
    refine w_ne hps (by decide +kernel) ?_
    rw [eqv_tt, eqvL_nil]
    cases hpp : ps with
    | nil =>
      refine k_bl ?_
      refine k_ifF ?_
      subst_eqs
      exact q _ _ hout (by omega) h (Same.refl n s)
    | cons p0 pr =>
      refine k_bl ?_
      refine k_ifT ?_
      rw [← hpp]
      subst_eqs
      refine w_ixT at0 ?_
      subst_eqs
      refine ⟨rfl, spec_pickT h (by rw [hpp]; simp) (by omega) fun p s1 hpm f1 m1 => ?_⟩
      obtain ⟨a, es, as, rfl, ha, hes, has, har, hsp⟩ := sp_pa (hp p hpm)
      subst_eqs
      refine w_ixT at1 ?_
      subst_eqs
      refine w_ixT at2 ?_
      subst_eqs
      refine w_ixT at0 ?_
      subst_eqs
      refine ⟨rfl, spec_draw f1 (by decide) (by decide) fun z s2 z0 z1 f2 m2 => ?_⟩
      subst_eqs
      refine ⟨two_ok, ?_⟩
      subst_eqs
      refine ⟨by show 4 ≤ sizeLine; decide, ?_⟩
      refine ⟨_, rfl, small2 (by simp only [List.length_cons, List.length_nil]; omega), ?_⟩
      subst_eqs
      refine w_ixT at2 ?_
      subst_eqs
      refine ⟨_, rfl, ?_⟩
      have hcut2 : (cutD as none (some 2)).length ≤ 2 := by
        unfold cutD
        rw [HT.sIx_none]
        show (List.take (HT.sIx as.length as.length (some ((2 : Nat) : Int)) - 0) _).length ≤ 2
        rw [HT.sIx_nat, List.length_take]; omega
      refine for_each (fun j ρ s => s = s2 ∧ ∃ x5 out, ρ = [.val (.ref n), .val (.tup [.tup ps, .tup cs]), .own out, x3, .val (.tup [a, .tup es, .tup as]), x5] ∧ (∀ y ∈ out, Sp 6 y) ∧ out.length ≤ 13 + 3 * j) _ 0 _ _ ?_ ⟨rfl, _, _, rfl, fun y hy => ?_, by rw [List.length_append]; simp only [List.length_cons, List.length_nil]; omega⟩ ?_
      · rintro m d ρ s hm ⟨rfl, x5, out, rfl, hout, hol⟩
        have hda := har d (cut_mem (List.mem_of_getElem? hm))
        have hds := sp_ar hda
        obtain ⟨p, g, l, hpn, hg, hl, rfl⟩ := hda
        refine ⟨_, set_nm (by simp), ?_⟩
        subst_eqs
        refine w_ixT at1 ?_
        subst_eqs
        refine w_ixT at2 ?_
        subst_eqs
        refine ⟨three_ok, ?_⟩
        have hml := (List.getElem?_eq_some_iff.mp hm).1
        refine ⟨_, rfl, small2 (by simp only [List.length_cons, List.length_nil]; omega), ?_⟩
        refine ⟨rfl, rfl, _, _, rfl, fun y hy => ?_, by rw [List.length_append]; simp only [List.length_cons, List.length_nil]; omega⟩
        rcases List.mem_append.mp hy with hy | hy
        · exact hout y hy
        · exact mem3 (P := Sp 6) (sp_mono hds (by decide)) (sp_mono (sp_do hg) (by decide)) (sp_nu hl 6) y hy
      · rcases List.mem_append.mp hy with hy | hy
        · exact hout y hy
        · exact mem4 (P := Sp 6) (sp_mono hsp (by decide)) (sp_mono hes (by decide)) (sp_mono has (by decide)) (show Sp 6 (.tup [a, .int z]) from ⟨by simp, mem2 (sp_mono ha (by decide)) (sp_i z0 (by omega) 5)⟩) y hy
      · rintro ρ s ⟨rfl, x5, out, rfl, hout, hol⟩
        subst_eqs
        exact q _ _ hout (by omega) f2 (m1.trans m2)
end
end LK

set_option linter.all false
set_option maxRecDepth 100000
set_option maxHeartbeats 4000000
/-! A16: the law. -/
namespace LK
open PySem PySem.Spec L2 PL PG
theorem at_app {s m : Sto} {i : Nat} {o : Ob} (h : s[i]? = some o) : (s ++ m)[i]? = some o := by
  rw [List.getElem?_append_left (List.getElem?_eq_some_iff.mp h).1]; exact h
theorem fok_app {n : Nat} {s : Sto} (h : FOk n s) (m : Sto) : FOk n (s ++ m) := let ⟨cs, a, r, k, e, q⟩ := h; ⟨cs, a, r, k, at_app e, q⟩
def dpD : Nat → D
  | 0 => .tup [.str "do", .str "go"]
  | n + 1 => .tup [dpD n]
theorem vk_dp : ∀ n, Vk (n + 1) (dpD n)
  | 0 => ⟨by simp, .inl (by simp), fun d hd => by
    simp only [List.mem_cons, List.not_mem_nil, or_false] at hd
    rcases hd with rfl | rfl
    · exact Vk.lf (lf_c (by decide +kernel)) 0
    · exact Vk.lf (lf_c (by decide +kernel)) 0⟩
  | n + 1 => ⟨by simp, .inl (by simp), fun d hd => by rw [List.mem_singleton.mp hd]; exact vk_dp n⟩
theorem cut_ints {xs : List D} {l u : Option Int} (h : ∀ d ∈ xs, ∃ i, d = .int i) : ∀ d ∈ cutD xs l u, ∃ i, d = .int i := fun d hd => h d (cut_mem hd)
section
variable {st : Sto} {Q : D → Sto → Prop} {n : Nat}
theorem w_fAddL {ρ : En} {f g : En → M D} {A : List D → Sto → Prop} (k : wp (f ρ) (fun x s => wp (g ρ) (fun y s => ∃ xs ys, x = .lst xs ∧ y = .lst ys ∧ xs.length + ys.length ≤ sizeLine ∧ A (xs ++ ys) s) s) st) : wp (fAddL f g ρ) A st := by
  unfold fAddL; rw [wp_bind]
  refine wp_mono k fun x s k => ?_
  rw [wp_bind]
  refine wp_mono k ?_
  rintro y s ⟨xs, ys, rfl, rfl, h1, h2⟩
  show wp ((line _).bind _) A s
  rw [wp_bind, wp_line, wp_pure]; exact ⟨h1, h2⟩
theorem all_kinds {ρ : En} {i : Nat} {te : En → M D} {xs : List D} {R : List D → Sto → Prop} (hi : i < ρ.length) (h : ∀ x ∈ xs, Ak x) (hf : FOk n st) (k : ∀ s, FOk n s → R [] s) : wp (lcL (Pt.nm i).set (tNt (tBl (eCall 1 m__law_kinds_right (aCons (eVar i) (aNil))))) te ρ xs) R st := by
  refine lc_noneF (FOk n) xs st (fun d hd s hs => ⟨_, set_nm hi, ?_⟩) hf k
  refine w_tNt (w_tBl (w_call (w_aC (w_var (List.getElem?_set_self hi) (w_aN ⟨rfl, ?_⟩)))))
  refine spec_kinds (h d hd) fun more => ?_
  exact ⟨rfl, fok_app hs more⟩
/-! ### a long party -/
theorem cut_drop {xs : List D} {m : Nat} : cutD xs (some ((m : Nat) : Int)) none = xs.drop m := by
  unfold cutD
  rw [HT.sIx_none, HT.sIx_nat]
  by_cases h : m ≤ xs.length
  · rw [Nat.min_eq_left h]
    exact List.take_of_length_le (by rw [List.length_drop]; exact Nat.le_refl _)
  · rw [Nat.min_eq_right (by omega), Nat.sub_self, List.drop_eq_nil_of_le (by omega), List.take_nil, List.drop_eq_nil_of_le (by omega)]
def lgT : En → M (Fl × En) := sSeq (sFor (iRange1 (aCons (eC (.int 27)) (aNil))) (.nm 8) (sSet 7 (eTup (aCons (eVar 7) (aNil))))) (sSeq (sExt 6 (eLst (aCons (eVar 7) (aCons (eTup (aCons (eC (.str "ann")) (aCons (eVar 7) (aCons (eTup (aNil)) (aNil))))) (aCons (eTup (aCons (eC (.int 0)) (aCons (eVar 7) (aCons (eC (.int 0)) (aNil))))) (aCons (eTup (aCons (eVar 2) (aCons (eVar 2) (aNil)))) (aCons (eVar 2) (aNil)))))))) (sFrz 6 (sRet (e2 eqM (eL (eLc (iSeq (eVar 6)) (.nm 9) [9] (tNt (tBl (eCall 1 m__law_kinds_right (aCons (eVar 9) (aNil))))) (eVar 9))) (eLst (aNil))))))
theorem lg_split : s__law_long_right = sSeq (sSet 1 (e2 addM (eC (.int 40)) (eCall 2 PG.m_law_draw (aCons (eVar 0) (aCons (eC (.int 200)) (aNil)))))) (sSeq (sSet 2 (e1 tupM (eL (eLc (iRange1 (aCons (eVar 1) (aNil))) (.nm 3) [3] (tTrue) (e2 mulM (eC (.int 3)) (eVar 3)))))) (sSeq (sSet 4 (e1 tupM (eL (eLc (iRange1 (aCons (eC (.int 30)) (aNil))) (.nm 3) [3] (tTrue) (eTup (aCons (eVar 3) (aCons (eTup (aCons (eC (.str "do")) (aCons (eC (.str "go")) (aNil)))) (aCons (eVar 3) (aNil))))))))) (sSeq (sPar 3 5 (eCall 2 PG.m_law_draw (aCons (eVar 0) (aCons (eVar 1) (aNil)))) (eCall 2 PG.m_law_draw (aCons (eVar 0) (aCons (eC (.int 30)) (aNil))))) (sSeq (sOwn 6 (fLst (aCons (eTup (aCons (eC (.str "ann")) (aCons (eVar 2) (aCons (eVar 4) (aNil))))) (aCons (eTup (aCons (eC (.str "ann")) (aCons (e2 addM (e2 addM (eSl (eVar 2) oNo (oSo (eVar 3))) (eSl (eVar 2) (oSo (eVar 3)) (oSo (e2 addM (eVar 3) (eC (.int 1)))))) (eSl (eVar 2) (oSo (eVar 3)) oNo)) (aCons (eVar 4) (aNil))))) (aNil))))) (sSeq (sApp 6 (eTup (aCons (eC (.str "ann")) (aCons (eVar 2) (aCons (e2 addM (eVar 4) (eSl (eVar 4) (oSo (eVar 5)) (oSo (e2 addM (eVar 5) (eC (.int 1)))))) (aNil)))))) (sSeq (sApp 6 (eTup (aCons (eC (.str "ann")) (aCons (eVar 2) (aCons (e2 addM (e2 addM (eSl (eVar 4) oNo (oSo (eVar 5))) (eTup (aCons (eTup (aCons (eVar 5) (aCons (eTup (aCons (eC (.str "put")) (aCons (eC (.str "l")) (aCons (eC (.str "A")) (aNil))))) (aCons (eC (.int 0)) (aNil))))) (aNil)))) (eSl (eVar 4) (oSo (eVar 5)) oNo)) (aNil)))))) (sSeq (sSet 7 (eTup (aCons (eC (.str "do")) (aCons (eC (.str "go")) (aNil))))) (lgT)))))))) := rfl
theorem long_end {es as things : List D} {x1 x3 x5 x8 x9 : Slot} (he : Vk 6 (.tup es)) (ht : ∀ y ∈ things, Ak y) (htl : things.length ≤ 10) (h : FOk n st) (q : ∀ s, FOk n s → Q (.bl true) s) : wp (lgT [.val (.ref n), x1, .val (.tup es), x3, .val (.tup as), x5, .own things, .val (dpD 0), x8, x9]) (RunK Q) st := by
  unfold lgT
  subst_eqs
  refine ⟨_, rfl, w_rangeN (n := 27) (by decide) ?_⟩
  refine for_each (fun j ρ s => s = st ∧ ∃ x8, ρ = [.val (.ref n), x1, .val (.tup es), x3, .val (.tup as), x5, .own things, .val (dpD j), x8, x9]) _ 0 _ _ ?_ ⟨rfl, _, rfl⟩ ?_
  · rintro m d ρ s hm ⟨rfl, x8, rfl⟩
    refine ⟨_, set_nm (by simp), ?_⟩
    subst_eqs
    refine ⟨one_ok, ?_⟩
    exact ⟨rfl, rfl, _, by rw [Nat.zero_add]; rfl⟩
  · rintro ρ s ⟨rfl, x8, rfl⟩
    rw [List.length_map, List.length_range, Nat.zero_add]
    have hdp : Vk 28 (dpD 27) := vk_dp 27
    generalize dpD 27 = dp at hdp
    subst_eqs
    refine ⟨(by decide : 0 ≤ sizeLine), ?_⟩
    subst_eqs
    refine ⟨three_ok, ?_⟩
    subst_eqs
    refine ⟨three_ok, ?_⟩
    subst_eqs
    refine ⟨two_ok, ?_⟩
    subst_eqs
    refine ⟨small2 (by simp), ?_⟩
    refine ⟨_, rfl, small2 (by simp only [List.length_cons, List.length_nil]; omega), ?_⟩
    subst_eqs
    refine ⟨_, rfl, ?_⟩
    refine all_kinds (by simp [wipeE, frz1]) (fun x hx => ?_) h fun s hs => ?_
    · rcases List.mem_append.mp hx with hx | hx
      · exact ht x hx
      · simp only [List.mem_cons, List.not_mem_nil, or_false] at hx
        rcases hx with rfl | rfl | rfl | rfl | rfl
        · exact Vk.mono hdp (by decide)
        · exact Vk.mono (n := 29) ⟨by simp, .inl (by simp), mem3 (Vk.lf (lf_c (by decide +kernel)) 28) hdp ⟨by simp, .inl (by simp), fun _ h => absurd h List.not_mem_nil⟩⟩ (by decide)
        · exact Vk.mono (n := 29) ⟨by simp, .inl (by simp), mem3 (Vk.lf (lf_nat (by decide)) 28) hdp (Vk.lf (lf_nat (by decide)) 28)⟩ (by decide)
        · exact Vk.mono (n := 7) ⟨by simp, .inl (by simp), mem2 he he⟩ (by decide)
        · exact Vk.mono he (by decide)
    · subst_eqs
      refine ⟨by decide, w_eq shp_nil shp_nil ?_⟩
      rw [eqv_ll, eqvL_nil]
      subst_eqs
      first | exact q s hs | exact k_run (q s hs)

theorem spec_long (h : FOk n st) (q : ∀ s, FOk n s → Q (.bl true) s) : wp (m__law_long_right [.ref n]) Q st := by
  refine w_run' [.val (.ref n), .no, .no, .no, .no, .no, .no, .no, .no, .no] rfl ?_
  rw [lg_split]
  subst_eqs
  refine ⟨rfl, spec_draw h (by decide) (by decide) fun z s1 z0 z1 f1 m1 => ?_⟩
  subst_eqs
  obtain ⟨m, hm⟩ : ∃ m : Nat, (40 + z) = (m : Int) := ⟨(40 + z).toNat, by omega⟩
  rw [hm]
  have hm1 : m < 240 := by omega
  have hm0 : 40 ≤ m := by omega
  refine ⟨_, rfl, w_rangeN (by omega) ?_⟩
  refine lc_mp (fun (i : Nat) => D.int i) (fun (i : Nat) => D.int (3 * (i : Int))) _ (fun j hj => ⟨_, set_nm (by simp [wipeE]), fun Q hQ => ?_⟩) ?_
  · have hj := List.mem_range.mp hj
    subst_eqs
    refine w_int2 (decide_eq_true (by omega)) ?_
    exact hQ
  · have hends : ∀ d ∈ (List.range m).map (fun (i : Nat) => D.int (3 * (i : Int))), (∃ i, d = .int i) ∧ Lf d := fun d hd => by
      obtain ⟨i, hi, rfl⟩ := List.mem_map.mp hd
      have := List.mem_range.mp hi
      exact ⟨⟨_, rfl⟩, lf_nat (by omega)⟩
    have hendl : ((List.range m).map fun (i : Nat) => D.int (3 * (i : Int))).length = m := by rw [List.length_map, List.length_range]
    generalize (List.range m).map (fun (i : Nat) => D.int (3 * (i : Int))) = es at hends hendl
    subst_eqs
    refine ⟨_, rfl, w_rangeN (n := 30) (by decide) ?_⟩
    refine lc_mp (fun (i : Nat) => D.int i) (fun (i : Nat) => D.tup [.int i, .tup [.str "do", .str "go"], .int i]) _ (fun j hj => ⟨_, set_nm (by simp [wipeE]), fun Q hQ => ?_⟩) ?_
    · subst_eqs
      refine ⟨two_ok, ?_⟩
      subst_eqs
      exact ⟨three_ok, hQ⟩
    · have hars : ∀ d ∈ (List.range 30).map (fun (i : Nat) => D.tup [.int i, .tup [.str "do", .str "go"], .int i]), Vk 5 d := fun d hd => by
        obtain ⟨i, hi, rfl⟩ := List.mem_map.mp hd
        have := List.mem_range.mp hi
        exact Vk.mono (n := 2) ⟨by simp, .inl (by simp), mem3 (Vk.lf (lf_nat (by omega)) 1) (vk_dp 0) (Vk.lf (lf_nat (by omega)) 1)⟩ (by decide)
      have harl : ((List.range 30).map fun (i : Nat) => D.tup [.int i, .tup [.str "do", .str "go"], .int i]).length = 30 := by rw [List.length_map, List.length_range]
      generalize (List.range 30).map (fun (i : Nat) => D.tup [.int i, .tup [.str "do", .str "go"], .int i]) = as at hars harl
      subst_eqs
      refine ⟨rfl, spec_draw f1 (by omega) (by omega) fun k s2 k0 k1 f2 m2 => ?_⟩
      subst_eqs
      refine ⟨rfl, spec_draw f2 (by decide) (by decide) fun j s3 j0 j1 f3 m3 => ?_⟩
      have hann : ∀ k, Vk k (.str "ann") := fun k => Vk.lf (lf_c (by decide +kernel)) k
      have vends : ∀ xs : List D, xs.length ≤ 1000 → (∀ d ∈ xs, d ∈ es) → Vk 6 (.tup xs) := fun xs h1 h2 => ⟨h1, .inr fun d hd => (hends d (h2 d hd)).1, fun d hd => Vk.lf (hends d (h2 d hd)).2 5⟩
      have vars : ∀ xs : List D, xs.length < 64 → (∀ d ∈ xs, Vk 5 d) → Vk 6 (.tup xs) := fun xs h1 h2 => ⟨by omega, .inl h1, h2⟩
      have ve := vends es (by omega) fun _ h => h
      have va := vars as (by omega) hars
      have row : ∀ x y, Vk 6 x → Vk 6 y → Ak (.tup [.str "ann", x, y]) := fun x y hx hy => Vk.mono (n := 7) ⟨by simp, .inl (by simp), mem3 (hann 6) hx hy⟩ (by decide)
      have c1 := cut_len es none (some k)
      have c2 := cut_len es (some k) (some (k + 1))
      have c3 := cut_len es (some k) none
      have d2l : (cutD as (some j) (some (j + 1))).length ≤ 30 := by have := cut_len as (some j) (some (j + 1)); omega
      have d1l := cut_len as none (some j)
      have d3l := cut_len as (some j) none
      obtain ⟨jn, rfl⟩ := Int.eq_ofNat_of_zero_le j0
      have hjn : (cutD as none (some ((jn : Nat) : Int))).length + (cutD as (some ((jn : Nat) : Int)) none).length ≤ 30 := by
        rw [cut_take (by omega), cut_drop, List.length_take, List.length_drop]
        omega
      have hj1 : (cutD as (some ((jn : Nat) : Int)) (some (((jn : Nat) : Int) + 1))).length ≤ 30 := d2l
      subst_eqs
      refine ⟨three_ok, ?_⟩
      subst_eqs
      refine w_addT (small2 (by omega)) ?_
      subst_eqs
      refine w_addT (small2 (by rw [List.length_append]; omega)) ?_
      subst_eqs
      refine ⟨three_ok, ?_⟩
      subst_eqs
      refine ⟨two_ok, ?_⟩
      subst_eqs
      refine w_addT (small2 (by omega)) ?_
      subst_eqs
      refine ⟨three_ok, ?_⟩
      subst_eqs
      refine ⟨small2 (by simp), ?_⟩
      subst_eqs
      repeat (first | (refine ⟨three_ok, ?_⟩; subst_eqs) | (refine ⟨one_ok, ?_⟩; subst_eqs))
      refine w_addT (small2 (by simp only [List.length_cons, List.length_nil]; omega)) ?_
      subst_eqs
      refine w_addT (small2 (by rw [List.length_append]; simp only [List.length_cons, List.length_nil]; omega)) ?_
      subst_eqs
      refine ⟨three_ok, ?_⟩
      subst_eqs
      refine ⟨small2 (by simp), ?_⟩
      subst_eqs
      refine ⟨two_ok, ?_⟩
      refine k_seq ?_
      refine long_end ve (fun y hy => ?_) (by simp) f3 q
      have hput : Vk 5 (.tup [.int (jn : Int), .tup [.str "put", .str "l", .str "A"], .int 0]) := Vk.mono (n := 2) ⟨by simp, .inl (by simp), mem3 (Vk.lf (lf_nat (by omega)) 1) ⟨by simp, .inl (by simp), mem3 (Vk.lf (lf_c (by decide +kernel)) 0) (Vk.lf (lf_c (by decide +kernel)) 0) (Vk.lf (lf_c (by decide +kernel)) 0)⟩ (Vk.lf (lf_nat (by decide)) 1)⟩ (by decide)
      rcases List.mem_append.mp hy with hy | hy
      · rcases List.mem_append.mp hy with hy | hy
        · simp only [List.mem_cons, List.not_mem_nil, or_false] at hy
          rcases hy with rfl | rfl
          · exact row _ _ ve va
          · refine row _ _ (vends _ (by rw [List.length_append, List.length_append]; omega) fun d hd => ?_) va
            rcases List.mem_append.mp hd with hd | hd
            · rcases List.mem_append.mp hd with hd | hd <;> exact cut_mem hd
            · exact cut_mem hd
        · rw [List.mem_singleton.mp hy]
          refine row _ _ ve (vars _ (by rw [List.length_append]; omega) fun d hd => ?_)
          rcases List.mem_append.mp hd with hd | hd
          · exact hars d hd
          · exact hars d (cut_mem hd)
      · rw [List.mem_singleton.mp hy]
        refine row _ _ ve (vars _ (by rw [List.length_append, List.length_append]; simp only [List.length_cons, List.length_nil]; omega) fun d hd => ?_)
        rcases List.mem_append.mp hd with hd | hd
        · rcases List.mem_append.mp hd with hd | hd
          · exact hars d (cut_mem hd)
          · rw [List.mem_singleton.mp hd]; exact hput
        · exact hars d (cut_mem hd)
def lawT : En → M (Fl × En) := sSeq (sSet 6 (eLst (aCons (eLst (aCons (eC (.str "do")) (aCons (eC (.str "go")) (aNil)))) (aCons (eLst (aCons (eC (.str "ann")) (aCons (eC (.int 0)) (aNil)))) (aNil))))) (sSeq (sIf (tOor (tBl (e2 neM (eL (eLc (iSeq (eVar 6)) (.nm 7) [7] (tNt (tBl (eCall 1 m__law_kinds_right (aCons (eVar 7) (aNil))))) (eVar 7))) (eLst (aNil)))) (tBl (e2 neM (eVar 6) (eLst (aCons (eLst (aCons (eC (.str "do")) (aCons (eC (.str "go")) (aNil)))) (aCons (eLst (aCons (eC (.str "ann")) (aCons (eC (.int 0)) (aNil)))) (aNil))))))) (sRet (eC (.bl false))) (sNil)) (sRet (eCall 1 m__law_long_right (aCons (eVar 1) (aNil)))))
theorem law_split : s_law = sSeq (sSet 1 (eCall 1 PG.m_law_feed (aCons (eVar 0) (aNil)))) (sSeq (sOwn 2 (fAddL (eCall 0 m__law_plain_things aNil) (eCall 0 m__law_plain_tuples aNil))) (sSeq (sFor (iRange1 (aCons (eC (.int 2)) (aNil))) (.nm 3) (sFor (iSeq (eCall 2 m__law_parts (aCons (eVar 1) (aCons (eCall 1 PG.m_law_built (aCons (eVar 1) (aNil))) (aNil))))) (.nm 4) (sExt 2 (eLst (aCons (eVar 4) (aCons (eCall 2 (m__law_spoilt 10) (aCons (eVar 1) (aCons (eVar 4) (aNil)))) (aCons (eCall 2 (m__law_spoilt 10) (aCons (eVar 1) (aCons (eVar 4) (aNil)))) (aNil)))))))) (sSeq (sFrz 2 (sFor (iSeq (eVar 2)) (.nm 5) (sIf (tNt (tBl (eCall 1 m__law_kinds_right (aCons (eVar 5) (aNil))))) (sRet (eC (.bl false))) (sNil)))) (lawT)))) := rfl
theorem spec_lawx (ns : List Int) (h : ns.length ≤ 63) : wp (m_law [.frz (ns.map D.int)]) (fun d _ => d = .bl true) [] := by
  refine w_run' [.val (.frz (ns.map D.int)), .no, .no, .no, .no, .no, .no, .no] rfl ?_
  rw [law_split]
  subst_eqs
  refine ⟨rfl, spec_feedS h fun o f => ?_⟩
  have f : FOk 0 ([] ++ [o]) := f
  generalize ([] ++ [o] : Sto) = s0 at f
  refine k_seq (w_seq (w_own (by simp) (w_fAddL ?_)))
  subst_eqs
  refine ⟨rfl, spec_things fun xs hx hxl => ?_⟩
  subst_eqs
  refine ⟨rfl, spec_tuples fun ys hy hyl => ?_⟩
  refine ⟨_, _, rfl, rfl, small2 (by omega), ?_⟩
  subst_eqs
  refine ⟨_, rfl, w_rangeN (n := 2) (by decide) ?_⟩
  refine for_each (fun j ρ s => FOk 0 s ∧ ∃ x3 x4 out, ρ = [.val (.frz (ns.map D.int)), .val (.ref 0), .own out, x3, x4, .no, .no, .no] ∧ (∀ y ∈ out, Ak y) ∧ out.length ≤ 200 + 90 * j) _ 0 _ _ ?_ ⟨f, _, _, _, rfl, fun y hh => ?_, by rw [List.length_append]; omega⟩ ?_
  · rintro m d ρ s hm ⟨f, x3, x4, out, rfl, hout, hol⟩
    have hml : m < 2 := by
      have := (List.getElem?_eq_some_iff.mp hm).1
      rw [List.length_map, List.length_range] at this; exact this
    rw [Nat.zero_add] at hol ⊢
    refine ⟨_, set_nm (by simp), ?_⟩
    subst_eqs
    refine ⟨rfl, spec_built f fun x s1 hx f1 m1 => ?_⟩
    subst_eqs
    refine ⟨rfl, spec_parts hx f1 fun zs s2 hz hzl f2 m2 => ?_⟩
    refine ⟨_, rfl, ?_⟩
    refine for_each (fun j ρ s => FOk 0 s ∧ ∃ x4 out, ρ = [.val (.frz (ns.map D.int)), .val (.ref 0), .own out, .val d, x4, .no, .no, .no] ∧ (∀ y ∈ out, Ak y) ∧ out.length ≤ 200 + 90 * m + 3 * j) _ 0 _ _ ?_ ⟨f2, _, _, rfl, hout, by omega⟩ ?_
    · rintro i e ρ s hi ⟨f, x4, out, rfl, hout, hol⟩
      have hil := (List.getElem?_eq_some_iff.mp hi).1
      rw [Nat.zero_add] at hol ⊢
      have he := hz e (List.mem_of_getElem? hi)
      refine ⟨_, set_nm (by simp), ?_⟩
      subst_eqs
      refine ⟨rfl, spec_spoilt 9 6 e (by decide) (by decide) he f fun a t1 ha ft1 mt1 => ?_⟩
      subst_eqs
      refine ⟨rfl, spec_spoilt 9 6 e (by decide) (by decide) he ft1 fun b t2 hb ft2 mt2 => ?_⟩
      subst_eqs
      refine ⟨three_ok, ?_⟩
      refine ⟨_, rfl, small2 (by simp only [List.length_cons, List.length_nil]; omega), ?_⟩
      refine ⟨rfl, ft2, _, _, rfl, fun y hy => ?_, by rw [List.length_append]; simp only [List.length_cons, List.length_nil]; omega⟩
      rcases List.mem_append.mp hy with hy | hy
      · exact hout y hy
      · exact mem3 (P := Ak) he.ak ha.ak hb.ak y hy
    · rintro ρ s ⟨f, x4, out, rfl, hout, hol⟩
      exact ⟨rfl, f, _, _, _, rfl, hout, by omega⟩
  · rcases List.mem_append.mp hh with hh | hh
    · exact hx y hh
    · exact hy y hh
  · rintro ρ s ⟨f, x3, x4, out, rfl, hout, hol⟩
    subst_eqs
    refine ⟨_, rfl, ?_⟩
    refine for_each (fun j ρ s => FOk 0 s ∧ ∃ x5, ρ = [.val (.frz (ns.map D.int)), .val (.ref 0), .val (.lst out), x3, x4, x5, .no, .no]) _ 0 _ _ ?_ ⟨f, _, rfl⟩ ?_
    · rintro m d ρ s hm ⟨f, x5, rfl⟩
      refine ⟨_, set_nm (by simp), ?_⟩
      subst_eqs
      refine ⟨rfl, spec_kinds (hout d (List.mem_of_getElem? hm)) fun more => ?_⟩
      subst_eqs
      exact ⟨rfl, fok_app f more, _, rfl⟩
    · rintro ρ s ⟨f, x5, rfl⟩
      unfold lawT
      subst_eqs
      repeat (refine ⟨two_ok, ?_⟩; subst_eqs)
      refine ⟨_, rfl, ?_⟩
      have hk : ∀ y ∈ [D.lst [.str "do", .str "go"], .lst [.str "ann", .int 0]], Ak y := aks_of (n := 2) (by decide +kernel)
      refine all_kinds (by simp [wipeE]) hk f fun s2 f2 => ?_
      subst_eqs
      refine ⟨by decide, ?_⟩
      refine w_ne shp_nil shp_nil ?_
      rw [eqv_ll, eqvL_nil]
      refine k_bl ?_
      refine k_ifF ?_
      subst_eqs
      repeat (refine ⟨two_ok, ?_⟩; subst_eqs)
      refine w_ne (by decide +kernel) (by decide +kernel) ?_
      have e : (D.lst [.lst [.str "do", .str "go"], .lst [.str "ann", .int 0]]).eqv (.lst [.lst [.str "do", .str "go"], .lst [.str "ann", .int 0]]) = true := by decide +kernel
      rw [e]
      refine k_bl ?_
      refine k_ifF ?_
      subst_eqs
      refine ⟨rfl, spec_long f2 fun s3 f3 => ?_⟩
      subst_eqs
      rfl
theorem law_ok : ∀ ns : List Int, ns.length ≤ 63 → ∃ st, m_law [.frz (ns.map D.int)] [] = .ok (.bl true) st := fun ns h => by
  obtain ⟨a, s, e, rfl⟩ := wp_ok (spec_lawx ns h)
  exact ⟨s, e⟩
end
end LK

set_option linter.all false
set_option maxRecDepth 100000
set_option maxHeartbeats 4000000
namespace LK
open PySem PySem.Spec L2 PL
theorem all_mk {P : Program} {w : World} {K : PySem.W.Frag} {h : Heap} {mg : Str → Option Value} {fa : Addr} (X : K.In h) (N : h.Ns mainGlobals mg) (hfa : mg "law" = some (.ref fa))
    {f0 : Addr} {oc0 : Value} {od0 an0 : Option Addr} {sl0 : Array (Option Value)} {kv0 dc0 pm0 cd0 ct0 : Value}
    {f1 : Addr} {oc1 : Value} {od1 an1 : Option Addr} {sl1 : Array (Option Value)} {kv1 dc1 pm1 cd1 ct1 : Value}
    {f2 : Addr} {oc2 : Value} {od2 an2 : Option Addr} {sl2 : Array (Option Value)} {kv2 dc2 pm2 cd2 ct2 : Value}
    {f3 : Addr} {oc3 : Value} {od3 an3 : Option Addr} {sl3 : Array (Option Value)} {kv3 dc3 pm3 cd3 ct3 : Value}
    {f4 : Addr} {oc4 : Value} {od4 an4 : Option Addr} {sl4 : Array (Option Value)} {kv4 dc4 pm4 cd4 ct4 : Value}
    {f5 : Addr} {oc5 : Value} {od5 an5 : Option Addr} {sl5 : Array (Option Value)} {kv5 dc5 pm5 cd5 ct5 : Value}
    {f6 : Addr} {oc6 : Value} {od6 an6 : Option Addr} {sl6 : Array (Option Value)} {kv6 dc6 pm6 cd6 ct6 : Value}
    {f7 : Addr} {oc7 : Value} {od7 an7 : Option Addr} {sl7 : Array (Option Value)} {kv7 dc7 pm7 cd7 ct7 : Value}
    {f8 : Addr} {oc8 : Value} {od8 an8 : Option Addr} {sl8 : Array (Option Value)} {kv8 dc8 pm8 cd8 ct8 : Value}
    {f9 : Addr} {oc9 : Value} {od9 an9 : Option Addr} {sl9 : Array (Option Value)} {kv9 dc9 pm9 cd9 ct9 : Value}
    {f10 : Addr} {oc10 : Value} {od10 an10 : Option Addr} {sl10 : Array (Option Value)} {kv10 dc10 pm10 cd10 ct10 : Value}
    {f11 : Addr} {oc11 : Value} {od11 an11 : Option Addr} {sl11 : Array (Option Value)} {kv11 dc11 pm11 cd11 ct11 : Value}
    {f12 : Addr} {oc12 : Value} {od12 an12 : Option Addr} {sl12 : Array (Option Value)} {kv12 dc12 pm12 cd12 ct12 : Value}
    {f13 : Addr} {oc13 : Value} {od13 an13 : Option Addr} {sl13 : Array (Option Value)} {kv13 dc13 pm13 cd13 ct13 : Value}
    {f14 : Addr} {oc14 : Value} {od14 an14 : Option Addr} {sl14 : Array (Option Value)} {kv14 dc14 pm14 cd14 ct14 : Value}
    {f15 : Addr} {oc15 : Value} {od15 an15 : Option Addr} {sl15 : Array (Option Value)} {kv15 dc15 pm15 cd15 ct15 : Value}
    {f16 : Addr} {oc16 : Value} {od16 an16 : Option Addr} {sl16 : Array (Option Value)} {kv16 dc16 pm16 cd16 ct16 : Value}
    {f17 : Addr} {oc17 : Value} {od17 an17 : Option Addr} {sl17 : Array (Option Value)} {kv17 dc17 pm17 cd17 ct17 : Value}
    {f18 : Addr} {oc18 : Value} {od18 an18 : Option Addr} {sl18 : Array (Option Value)} {kv18 dc18 pm18 cd18 ct18 : Value}
    {f19 : Addr} {oc19 : Value} {od19 an19 : Option Addr} {sl19 : Array (Option Value)} {kv19 dc19 pm19 cd19 ct19 : Value}
    {f20 : Addr} {oc20 : Value} {od20 an20 : Option Addr} {sl20 : Array (Option Value)} {kv20 dc20 pm20 cd20 ct20 : Value}
    {f21 : Addr} {oc21 : Value} {od21 an21 : Option Addr} {sl21 : Array (Option Value)} {kv21 dc21 pm21 cd21 ct21 : Value}
    {f22 : Addr} {oc22 : Value} {od22 an22 : Option Addr} {sl22 : Array (Option Value)} {kv22 dc22 pm22 cd22 ct22 : Value}
    {f23 : Addr} {oc23 : Value} {od23 an23 : Option Addr} {sl23 : Array (Option Value)} {kv23 dc23 pm23 cd23 ct23 : Value}
    {f24 : Addr} {oc24 : Value} {od24 an24 : Option Addr} {sl24 : Array (Option Value)} {kv24 dc24 pm24 cd24 ct24 : Value}
    {f25 : Addr} {oc25 : Value} {od25 an25 : Option Addr} {sl25 : Array (Option Value)} {kv25 dc25 pm25 cd25 ct25 : Value}
    {f26 : Addr} {oc26 : Value} {od26 an26 : Option Addr} {sl26 : Array (Option Value)} {kv26 dc26 pm26 cd26 ct26 : Value}
    {f27 : Addr} {oc27 : Value} {od27 an27 : Option Addr} {sl27 : Array (Option Value)} {kv27 dc27 pm27 cd27 ct27 : Value}
    {f28 : Addr} {oc28 : Value} {od28 an28 : Option Addr} {sl28 : Array (Option Value)} {kv28 dc28 pm28 cd28 ct28 : Value}
    {f29 : Addr} {oc29 : Value} {od29 an29 : Option Addr} {sl29 : Array (Option Value)} {kv29 dc29 pm29 cd29 ct29 : Value}
    {f30 : Addr} {oc30 : Value} {od30 an30 : Option Addr} {sl30 : Array (Option Value)} {kv30 dc30 pm30 cd30 ct30 : Value}
    {f31 : Addr} {oc31 : Value} {od31 an31 : Option Addr} {sl31 : Array (Option Value)} {kv31 dc31 pm31 cd31 ct31 : Value}
    {f32 : Addr} {oc32 : Value} {od32 an32 : Option Addr} {sl32 : Array (Option Value)} {kv32 dc32 pm32 cd32 ct32 : Value}
    {f33 : Addr} {oc33 : Value} {od33 an33 : Option Addr} {sl33 : Array (Option Value)} {kv33 dc33 pm33 cd33 ct33 : Value}
    {f34 : Addr} {oc34 : Value} {od34 an34 : Option Addr} {sl34 : Array (Option Value)} {kv34 dc34 pm34 cd34 ct34 : Value}
    {f35 : Addr} {oc35 : Value} {od35 an35 : Option Addr} {sl35 : Array (Option Value)} {kv35 dc35 pm35 cd35 ct35 : Value}
    {f36 : Addr} {oc36 : Value} {od36 an36 : Option Addr} {sl36 : Array (Option Value)} {kv36 dc36 pm36 cd36 ct36 : Value}
    {f37 : Addr} {oc37 : Value} {od37 an37 : Option Addr} {sl37 : Array (Option Value)} {kv37 dc37 pm37 cd37 ct37 : Value}
    {f38 : Addr} {oc38 : Value} {od38 an38 : Option Addr} {sl38 : Array (Option Value)} {kv38 dc38 pm38 cd38 ct38 : Value}
    {f39 : Addr} {oc39 : Value} {od39 an39 : Option Addr} {sl39 : Array (Option Value)} {kv39 dc39 pm39 cd39 ct39 : Value}
    {f40 : Addr} {oc40 : Value} {od40 an40 : Option Addr} {sl40 : Array (Option Value)} {kv40 dc40 pm40 cd40 ct40 : Value}
    {f41 : Addr} {oc41 : Value} {od41 an41 : Option Addr} {sl41 : Array (Option Value)} {kv41 dc41 pm41 cd41 ct41 : Value}
    {f42 : Addr} {oc42 : Value} {od42 an42 : Option Addr} {sl42 : Array (Option Value)} {kv42 dc42 pm42 cd42 ct42 : Value}
    {f43 : Addr} {oc43 : Value} {od43 an43 : Option Addr} {sl43 : Array (Option Value)} {kv43 dc43 pm43 cd43 ct43 : Value}
    {gT0 : Addr} {gd0 : Option Addr} {gs0 : Array (Option Value)} {gn0 : Nat} {gt0_0 : Tok} {gt0_1 : Tok} {gt0_2 : Tok}
    {gt1 : Tok}
    (a0 : PySem.W.nsIn K mainGlobals "is_integer" = some (some (.ref f0)))
    (l0 : K.lookup f0 = some ⟨oc0, od0, .func (PySem.W.fnOf "is_integer" "is_integer" (defArgs (topS 3)) (defBody (topS 3)) (defScope (topS 3)) .none kv0 dc0 pm0 an0 cd0 ct0), sl0⟩)
    (c0 : PySem.W.codeIn K cd0 "is_integer" = true)
    (k0 : PySem.W.keepIn K (.ref f0) = true)
    (a1 : PySem.W.nsIn K mainGlobals "is_number" = some (some (.ref f1)))
    (l1 : K.lookup f1 = some ⟨oc1, od1, .func (PySem.W.fnOf "is_number" "is_number" (defArgs (topS 4)) (defBody (topS 4)) (defScope (topS 4)) .none kv1 dc1 pm1 an1 cd1 ct1), sl1⟩)
    (c1 : PySem.W.codeIn K cd1 "is_number" = true)
    (k1 : PySem.W.keepIn K (.ref f1) = true)
    (a2 : PySem.W.nsIn K mainGlobals "is_name" = some (some (.ref f2)))
    (l2 : K.lookup f2 = some ⟨oc2, od2, .func (PySem.W.fnOf "is_name" "is_name" (defArgs (topS 5)) (defBody (topS 5)) (defScope (topS 5)) .none kv2 dc2 pm2 an2 cd2 ct2), sl2⟩)
    (c2 : PySem.W.codeIn K cd2 "is_name" = true)
    (k2 : PySem.W.keepIn K (.ref f2) = true)
    (a3 : PySem.W.nsIn K mainGlobals "is_form" = some (some (.ref f3)))
    (l3 : K.lookup f3 = some ⟨oc3, od3, .func (PySem.W.fnOf "is_form" "is_form" (defArgs (topS 6)) (defBody (topS 6)) (defScope (topS 6)) .none kv3 dc3 pm3 an3 cd3 ct3), sl3⟩)
    (c3 : PySem.W.codeIn K cd3 "is_form" = true)
    (k3 : PySem.W.keepIn K (.ref f3) = true)
    (a4 : PySem.W.nsIn K mainGlobals "is_row" = some (some (.ref f4)))
    (l4 : K.lookup f4 = some ⟨oc4, od4, .func (PySem.W.fnOf "is_row" "is_row" (defArgs (topS 13)) (defBody (topS 13)) (defScope (topS 13)) .none kv4 dc4 pm4 an4 cd4 ct4), sl4⟩)
    (c4 : PySem.W.codeIn K cd4 "is_row" = true)
    (k4 : PySem.W.keepIn K (.ref f4) = true)
    (a5 : PySem.W.nsIn K mainGlobals "is_pair_of_tuples" = some (some (.ref f5)))
    (l5 : K.lookup f5 = some ⟨oc5, od5, .func (PySem.W.fnOf "is_pair_of_tuples" "is_pair_of_tuples" (defArgs (topS 14)) (defBody (topS 14)) (defScope (topS 14)) .none kv5 dc5 pm5 an5 cd5 ct5), sl5⟩)
    (c5 : PySem.W.codeIn K cd5 "is_pair_of_tuples" = true)
    (k5 : PySem.W.keepIn K (.ref f5) = true)
    (a6 : PySem.W.nsIn K mainGlobals "is_channel_row" = some (some (.ref f6)))
    (l6 : K.lookup f6 = some ⟨oc6, od6, .func (PySem.W.fnOf "is_channel_row" "is_channel_row" (defArgs (topS 15)) (defBody (topS 15)) (defScope (topS 15)) .none kv6 dc6 pm6 an6 cd6 ct6), sl6⟩)
    (c6 : PySem.W.codeIn K cd6 "is_channel_row" = true)
    (k6 : PySem.W.keepIn K (.ref f6) = true)
    (a7 : PySem.W.nsIn K mainGlobals "ascends" = some (some (.ref f7)))
    (l7 : K.lookup f7 = some ⟨oc7, od7, .func (PySem.W.fnOf "ascends" "ascends" (defArgs (topS 17)) (defBody (topS 17)) (defScope (topS 17)) .none kv7 dc7 pm7 an7 cd7 ct7), sl7⟩)
    (c7 : PySem.W.codeIn K cd7 "ascends" = true)
    (k7 : PySem.W.keepIn K (.ref f7) = true)
    (a8 : PySem.W.nsIn K mainGlobals "sides_of" = some (some (.ref f8)))
    (l8 : K.lookup f8 = some ⟨oc8, od8, .func (PySem.W.fnOf "sides_of" "sides_of" (defArgs (topS 18)) (defBody (topS 18)) (defScope (topS 18)) .none kv8 dc8 pm8 an8 cd8 ct8), sl8⟩)
    (c8 : PySem.W.codeIn K cd8 "sides_of" = true)
    (k8 : PySem.W.keepIn K (.ref f8) = true)
    (a9 : PySem.W.nsIn K mainGlobals "is_owner" = some (some (.ref f9)))
    (l9 : K.lookup f9 = some ⟨oc9, od9, .func (PySem.W.fnOf "is_owner" "is_owner" (defArgs (topS 19)) (defBody (topS 19)) (defScope (topS 19)) .none kv9 dc9 pm9 an9 cd9 ct9), sl9⟩)
    (c9 : PySem.W.codeIn K cd9 "is_owner" = true)
    (k9 : PySem.W.keepIn K (.ref f9) = true)
    (a10 : PySem.W.nsIn K mainGlobals "_law_feed" = some (some (.ref f10)))
    (l10 : K.lookup f10 = some ⟨oc10, od10, .func (PySem.W.fnOf "_law_feed" "_law_feed" (defArgs (topS 21)) (defBody (topS 21)) (defScope (topS 21)) .none kv10 dc10 pm10 an10 cd10 ct10), sl10⟩)
    (c10 : PySem.W.codeIn K cd10 "_law_feed" = true)
    (k10 : PySem.W.keepIn K (.ref f10) = true)
    (a11 : PySem.W.nsIn K mainGlobals "_law_draw" = some (some (.ref f11)))
    (l11 : K.lookup f11 = some ⟨oc11, od11, .func (PySem.W.fnOf "_law_draw" "_law_draw" (defArgs (topS 22)) (defBody (topS 22)) (defScope (topS 22)) .none kv11 dc11 pm11 an11 cd11 ct11), sl11⟩)
    (c11 : PySem.W.codeIn K cd11 "_law_draw" = true)
    (k11 : PySem.W.keepIn K (.ref f11) = true)
    (a12 : PySem.W.nsIn K mainGlobals "_law_pick" = some (some (.ref f12)))
    (l12 : K.lookup f12 = some ⟨oc12, od12, .func (PySem.W.fnOf "_law_pick" "_law_pick" (defArgs (topS 23)) (defBody (topS 23)) (defScope (topS 23)) .none kv12 dc12 pm12 an12 cd12 ct12), sl12⟩)
    (c12 : PySem.W.codeIn K cd12 "_law_pick" = true)
    (k12 : PySem.W.keepIn K (.ref f12) = true)
    (a13 : PySem.W.nsIn K mainGlobals "_law_names" = some (some (.ref f13)))
    (l13 : K.lookup f13 = some ⟨oc13, od13, .func (PySem.W.fnOf "_law_names" "_law_names" (defArgs (topS 24)) (defBody (topS 24)) (defScope (topS 24)) .none kv13 dc13 pm13 an13 cd13 ct13), sl13⟩)
    (c13 : PySem.W.codeIn K cd13 "_law_names" = true)
    (k13 : PySem.W.keepIn K (.ref f13) = true)
    (a14 : PySem.W.nsIn K mainGlobals "_law_spots" = some (some (.ref f14)))
    (l14 : K.lookup f14 = some ⟨oc14, od14, .func (PySem.W.fnOf "_law_spots" "_law_spots" (defArgs (topS 25)) (defBody (topS 25)) (defScope (topS 25)) .none kv14 dc14 pm14 an14 cd14 ct14), sl14⟩)
    (c14 : PySem.W.codeIn K cd14 "_law_spots" = true)
    (k14 : PySem.W.keepIn K (.ref f14) = true)
    (a15 : PySem.W.nsIn K mainGlobals "_law_doings" = some (some (.ref f15)))
    (l15 : K.lookup f15 = some ⟨oc15, od15, .func (PySem.W.fnOf "_law_doings" "_law_doings" (defArgs (topS 26)) (defBody (topS 26)) (defScope (topS 26)) .none kv15 dc15 pm15 an15 cd15 ct15), sl15⟩)
    (c15 : PySem.W.codeIn K cd15 "_law_doings" = true)
    (k15 : PySem.W.keepIn K (.ref f15) = true)
    (a16 : PySem.W.nsIn K mainGlobals "_law_party" = some (some (.ref f16)))
    (l16 : K.lookup f16 = some ⟨oc16, od16, .func (PySem.W.fnOf "_law_party" "_law_party" (defArgs (topS 27)) (defBody (topS 27)) (defScope (topS 27)) .none kv16 dc16 pm16 an16 cd16 ct16), sl16⟩)
    (c16 : PySem.W.codeIn K cd16 "_law_party" = true)
    (k16 : PySem.W.keepIn K (.ref f16) = true)
    (a17 : PySem.W.nsIn K mainGlobals "_law_built" = some (some (.ref f17)))
    (l17 : K.lookup f17 = some ⟨oc17, od17, .func (PySem.W.fnOf "_law_built" "_law_built" (defArgs (topS 28)) (defBody (topS 28)) (defScope (topS 28)) .none kv17 dc17 pm17 an17 cd17 ct17), sl17⟩)
    (c17 : PySem.W.codeIn K cd17 "_law_built" = true)
    (k17 : PySem.W.keepIn K (.ref f17) = true)
    (a18 : PySem.W.nsIn K mainGlobals "_law_strange" = some (some (.ref f18)))
    (l18 : K.lookup f18 = some ⟨oc18, od18, .func (PySem.W.fnOf "_law_strange" "_law_strange" (defArgs (topS 29)) (defBody (topS 29)) (defScope (topS 29)) .none kv18 dc18 pm18 an18 cd18 ct18), sl18⟩)
    (c18 : PySem.W.codeIn K cd18 "_law_strange" = true)
    (k18 : PySem.W.keepIn K (.ref f18) = true)
    (a19 : PySem.W.nsIn K mainGlobals "_law_spoilt" = some (some (.ref f19)))
    (l19 : K.lookup f19 = some ⟨oc19, od19, .func (PySem.W.fnOf "_law_spoilt" "_law_spoilt" (defArgs (topS 30)) (defBody (topS 30)) (defScope (topS 30)) .none kv19 dc19 pm19 an19 cd19 ct19), sl19⟩)
    (c19 : PySem.W.codeIn K cd19 "_law_spoilt" = true)
    (k19 : PySem.W.keepIn K (.ref f19) = true)
    (a20 : PySem.W.nsIn K mainGlobals "_law_is_number" = some (some (.ref f20)))
    (l20 : K.lookup f20 = some ⟨oc20, od20, .func (PySem.W.fnOf "_law_is_number" "_law_is_number" (defArgs (topS 31)) (defBody (topS 31)) (defScope (topS 31)) .none kv20 dc20 pm20 an20 cd20 ct20), sl20⟩)
    (c20 : PySem.W.codeIn K cd20 "_law_is_number" = true)
    (k20 : PySem.W.keepIn K (.ref f20) = true)
    (a21 : PySem.W.nsIn K mainGlobals "_law_is_name" = some (some (.ref f21)))
    (l21 : K.lookup f21 = some ⟨oc21, od21, .func (PySem.W.fnOf "_law_is_name" "_law_is_name" (defArgs (topS 32)) (defBody (topS 32)) (defScope (topS 32)) .none kv21 dc21 pm21 an21 cd21 ct21), sl21⟩)
    (c21 : PySem.W.codeIn K cd21 "_law_is_name" = true)
    (k21 : PySem.W.keepIn K (.ref f21) = true)
    (a22 : PySem.W.nsIn K mainGlobals "_law_is_sized" = some (some (.ref f22)))
    (l22 : K.lookup f22 = some ⟨oc22, od22, .func (PySem.W.fnOf "_law_is_sized" "_law_is_sized" (defArgs (topS 33)) (defBody (topS 33)) (defScope (topS 33)) .none kv22 dc22 pm22 an22 cd22 ct22), sl22⟩)
    (c22 : PySem.W.codeIn K cd22 "_law_is_sized" = true)
    (k22 : PySem.W.keepIn K (.ref f22) = true)
    (a23 : PySem.W.nsIn K mainGlobals "_law_is_doing" = some (some (.ref f23)))
    (l23 : K.lookup f23 = some ⟨oc23, od23, .func (PySem.W.fnOf "_law_is_doing" "_law_is_doing" (defArgs (topS 34)) (defBody (topS 34)) (defScope (topS 34)) .none kv23 dc23 pm23 an23 cd23 ct23), sl23⟩)
    (c23 : PySem.W.codeIn K cd23 "_law_is_doing" = true)
    (k23 : PySem.W.keepIn K (.ref f23) = true)
    (a24 : PySem.W.nsIn K mainGlobals "_law_is_arrow" = some (some (.ref f24)))
    (l24 : K.lookup f24 = some ⟨oc24, od24, .func (PySem.W.fnOf "_law_is_arrow" "_law_is_arrow" (defArgs (topS 35)) (defBody (topS 35)) (defScope (topS 35)) .none kv24 dc24 pm24 an24 cd24 ct24), sl24⟩)
    (c24 : PySem.W.codeIn K cd24 "_law_is_arrow" = true)
    (k24 : PySem.W.keepIn K (.ref f24) = true)
    (a25 : PySem.W.nsIn K mainGlobals "_law_is_ends" = some (some (.ref f25)))
    (l25 : K.lookup f25 = some ⟨oc25, od25, .func (PySem.W.fnOf "_law_is_ends" "_law_is_ends" (defArgs (topS 36)) (defBody (topS 36)) (defScope (topS 36)) .none kv25 dc25 pm25 an25 cd25 ct25), sl25⟩)
    (c25 : PySem.W.codeIn K cd25 "_law_is_ends" = true)
    (k25 : PySem.W.keepIn K (.ref f25) = true)
    (a26 : PySem.W.nsIn K mainGlobals "_law_is_channel" = some (some (.ref f26)))
    (l26 : K.lookup f26 = some ⟨oc26, od26, .func (PySem.W.fnOf "_law_is_channel" "_law_is_channel" (defArgs (topS 37)) (defBody (topS 37)) (defScope (topS 37)) .none kv26 dc26 pm26 an26 cd26 ct26), sl26⟩)
    (c26 : PySem.W.codeIn K cd26 "_law_is_channel" = true)
    (k26 : PySem.W.keepIn K (.ref f26) = true)
    (a27 : PySem.W.nsIn K mainGlobals "_law_is_party" = some (some (.ref f27)))
    (l27 : K.lookup f27 = some ⟨oc27, od27, .func (PySem.W.fnOf "_law_is_party" "_law_is_party" (defArgs (topS 38)) (defBody (topS 38)) (defScope (topS 38)) .none kv27 dc27 pm27 an27 cd27 ct27), sl27⟩)
    (c27 : PySem.W.codeIn K cd27 "_law_is_party" = true)
    (k27 : PySem.W.keepIn K (.ref f27) = true)
    (a28 : PySem.W.nsIn K mainGlobals "_law_is_rising" = some (some (.ref f28)))
    (l28 : K.lookup f28 = some ⟨oc28, od28, .func (PySem.W.fnOf "_law_is_rising" "_law_is_rising" (defArgs (topS 39)) (defBody (topS 39)) (defScope (topS 39)) .none kv28 dc28 pm28 an28 cd28 ct28), sl28⟩)
    (c28 : PySem.W.codeIn K cd28 "_law_is_rising" = true)
    (k28 : PySem.W.keepIn K (.ref f28) = true)
    (a29 : PySem.W.nsIn K mainGlobals "_law_is_owner" = some (some (.ref f29)))
    (l29 : K.lookup f29 = some ⟨oc29, od29, .func (PySem.W.fnOf "_law_is_owner" "_law_is_owner" (defArgs (topS 40)) (defBody (topS 40)) (defScope (topS 40)) .none kv29 dc29 pm29 an29 cd29 ct29), sl29⟩)
    (c29 : PySem.W.codeIn K cd29 "_law_is_owner" = true)
    (k29 : PySem.W.keepIn K (.ref f29) = true)
    (a30 : PySem.W.nsIn K mainGlobals "_law_is_program" = some (some (.ref f30)))
    (l30 : K.lookup f30 = some ⟨oc30, od30, .func (PySem.W.fnOf "_law_is_program" "_law_is_program" (defArgs (topS 41)) (defBody (topS 41)) (defScope (topS 41)) .none kv30 dc30 pm30 an30 cd30 ct30), sl30⟩)
    (c30 : PySem.W.codeIn K cd30 "_law_is_program" = true)
    (k30 : PySem.W.keepIn K (.ref f30) = true)
    (a31 : PySem.W.nsIn K mainGlobals "_law_plain_things" = some (some (.ref f31)))
    (l31 : K.lookup f31 = some ⟨oc31, od31, .func (PySem.W.fnOf "_law_plain_things" "_law_plain_things" (defArgs (topS 43)) (defBody (topS 43)) (defScope (topS 43)) .none kv31 dc31 pm31 an31 cd31 ct31), sl31⟩)
    (c31 : PySem.W.codeIn K cd31 "_law_plain_things" = true)
    (k31 : PySem.W.keepIn K (.ref f31) = true)
    (a32 : PySem.W.nsIn K mainGlobals "_law_plain_tuples" = some (some (.ref f32)))
    (l32 : K.lookup f32 = some ⟨oc32, od32, .func (PySem.W.fnOf "_law_plain_tuples" "_law_plain_tuples" (defArgs (topS 44)) (defBody (topS 44)) (defScope (topS 44)) .none kv32 dc32 pm32 an32 cd32 ct32), sl32⟩)
    (c32 : PySem.W.codeIn K cd32 "_law_plain_tuples" = true)
    (k32 : PySem.W.keepIn K (.ref f32) = true)
    (a33 : PySem.W.nsIn K mainGlobals "_law_parts" = some (some (.ref f33)))
    (l33 : K.lookup f33 = some ⟨oc33, od33, .func (PySem.W.fnOf "_law_parts" "_law_parts" (defArgs (topS 46)) (defBody (topS 46)) (defScope (topS 46)) .none kv33 dc33 pm33 an33 cd33 ct33), sl33⟩)
    (c33 : PySem.W.codeIn K cd33 "_law_parts" = true)
    (k33 : PySem.W.keepIn K (.ref f33) = true)
    (a34 : PySem.W.nsIn K mainGlobals "is_doing" = some (some (.ref f34)))
    (l34 : K.lookup f34 = some ⟨oc34, od34, .func (PySem.W.fnOf "is_doing" "is_doing" (defArgs (topS 7)) (defBody (topS 7)) (defScope (topS 7)) .none kv34 dc34 pm34 an34 cd34 ct34), sl34⟩)
    (c34 : PySem.W.codeIn K cd34 "is_doing" = true)
    (k34 : PySem.W.keepIn K (.ref f34) = true)
    (a35 : PySem.W.nsIn K mainGlobals "is_arrow" = some (some (.ref f35)))
    (l35 : K.lookup f35 = some ⟨oc35, od35, .func (PySem.W.fnOf "is_arrow" "is_arrow" (defArgs (topS 8)) (defBody (topS 8)) (defScope (topS 8)) .none kv35 dc35 pm35 an35 cd35 ct35), sl35⟩)
    (c35 : PySem.W.codeIn K cd35 "is_arrow" = true)
    (k35 : PySem.W.keepIn K (.ref f35) = true)
    (a36 : PySem.W.nsIn K mainGlobals "is_channel" = some (some (.ref f36)))
    (l36 : K.lookup f36 = some ⟨oc36, od36, .func (PySem.W.fnOf "is_channel" "is_channel" (defArgs (topS 9)) (defBody (topS 9)) (defScope (topS 9)) .none kv36 dc36 pm36 an36 cd36 ct36), sl36⟩)
    (c36 : PySem.W.codeIn K cd36 "is_channel" = true)
    (k36 : PySem.W.keepIn K (.ref f36) = true)
    (a37 : PySem.W.nsIn K mainGlobals "is_event" = some (some (.ref f37)))
    (l37 : K.lookup f37 = some ⟨oc37, od37, .func (PySem.W.fnOf "is_event" "is_event" (defArgs (topS 12)) (defBody (topS 12)) (defScope (topS 12)) .none kv37 dc37 pm37 an37 cd37 ct37), sl37⟩)
    (c37 : PySem.W.codeIn K cd37 "is_event" = true)
    (k37 : PySem.W.keepIn K (.ref f37) = true)
    (a38 : PySem.W.nsIn K mainGlobals "is_number_set" = some (some (.ref f38)))
    (l38 : K.lookup f38 = some ⟨oc38, od38, .func (PySem.W.fnOf "is_number_set" "is_number_set" (defArgs (topS 16)) (defBody (topS 16)) (defScope (topS 16)) .none kv38 dc38 pm38 an38 cd38 ct38), sl38⟩)
    (c38 : PySem.W.codeIn K cd38 "is_number_set" = true)
    (k38 : PySem.W.keepIn K (.ref f38) = true)
    (a39 : PySem.W.nsIn K mainGlobals "is_party" = some (some (.ref f39)))
    (l39 : K.lookup f39 = some ⟨oc39, od39, .func (PySem.W.fnOf "is_party" "is_party" (defArgs (topS 10)) (defBody (topS 10)) (defScope (topS 10)) .none kv39 dc39 pm39 an39 cd39 ct39), sl39⟩)
    (c39 : PySem.W.codeIn K cd39 "is_party" = true)
    (k39 : PySem.W.keepIn K (.ref f39) = true)
    (a40 : PySem.W.nsIn K mainGlobals "is_program" = some (some (.ref f40)))
    (l40 : K.lookup f40 = some ⟨oc40, od40, .func (PySem.W.fnOf "is_program" "is_program" (defArgs (topS 11)) (defBody (topS 11)) (defScope (topS 11)) .none kv40 dc40 pm40 an40 cd40 ct40), sl40⟩)
    (c40 : PySem.W.codeIn K cd40 "is_program" = true)
    (k40 : PySem.W.keepIn K (.ref f40) = true)
    (a41 : PySem.W.nsIn K mainGlobals "_law_kinds_right" = some (some (.ref f41)))
    (l41 : K.lookup f41 = some ⟨oc41, od41, .func (PySem.W.fnOf "_law_kinds_right" "_law_kinds_right" (defArgs (topS 42)) (defBody (topS 42)) (defScope (topS 42)) .none kv41 dc41 pm41 an41 cd41 ct41), sl41⟩)
    (c41 : PySem.W.codeIn K cd41 "_law_kinds_right" = true)
    (k41 : PySem.W.keepIn K (.ref f41) = true)
    (a42 : PySem.W.nsIn K mainGlobals "_law_long_right" = some (some (.ref f42)))
    (l42 : K.lookup f42 = some ⟨oc42, od42, .func (PySem.W.fnOf "_law_long_right" "_law_long_right" (defArgs (topS 45)) (defBody (topS 45)) (defScope (topS 45)) .none kv42 dc42 pm42 an42 cd42 ct42), sl42⟩)
    (c42 : PySem.W.codeIn K cd42 "_law_long_right" = true)
    (k42 : PySem.W.keepIn K (.ref f42) = true)
    (a43 : PySem.W.nsIn K mainGlobals "law" = some (some (.ref f43)))
    (l43 : K.lookup f43 = some ⟨oc43, od43, .func (PySem.W.fnOf "law" "law" (defArgs (topS 47)) (defBody (topS 47)) (defScope (topS 47)) .none kv43 dc43 pm43 an43 cd43 ct43), sl43⟩)
    (c43 : PySem.W.codeIn K cd43 "law" = true)
    (k43 : PySem.W.keepIn K (.ref f43) = true)
    (g0 : PySem.W.nsIn K mainGlobals "FORMS" = some (some (.ref gT0)))
    (h0 : K.lookup gT0 = some ⟨.type "tuple", gd0, .seq #[.str "queue" gt0_0, .str "bag" gt0_1, .str "call" gt0_2] gn0, gs0⟩)
    (g1 : PySem.W.nsIn K mainGlobals "LETTERS" = some (some (.str "abcdefghijklmnopqrstuvwxyz" gt1)))
    (z_len : PySem.W.nsIn K mainGlobals "len" = some none)
    (z_all : PySem.W.nsIn K mainGlobals "all" = some none)
    (z_any : PySem.W.nsIn K mainGlobals "any" = some none)
    (z_range : PySem.W.nsIn K mainGlobals "range" = some none)
    (z_isinstance : PySem.W.nsIn K mainGlobals "isinstance" = some none)
    (z_int : PySem.W.nsIn K mainGlobals "int" = some none)
    (z_str : PySem.W.nsIn K mainGlobals "str" = some none)
    (z_tuple : PySem.W.nsIn K mainGlobals "tuple" = some none)
    (z_bool : PySem.W.nsIn K mainGlobals "bool" = some none)
    (z_list : PySem.W.nsIn K mainGlobals "list" = some none)
    (z_set : PySem.W.nsIn K mainGlobals "set" = some none)
    (z_sorted : PySem.W.nsIn K mainGlobals "sorted" = some none)
    (z_enumerate : PySem.W.nsIn K mainGlobals "enumerate" = some none)
    (z_sum : PySem.W.nsIn K mainGlobals "sum" = some none) :
    ∃ fd, (∀ (s : Shared) (u : Value), BindsTo s fd ⟨[u], []⟩ [("_law_script", u)]) ∧ ∀ base : Heap, K.In base → base.Ns mainGlobals mg → FnOk P w K mg base (L2.CX P w) 14 fa fd ["_law_script"] (spLaw K) := by
  have f_is_integer : Fn0 K mg "is_integer" (topS 3) ["thing"] := fn0_of X N ["thing"] a0 l0 c0 k0 fun _ _ _ _ _ _ us hl => match us, hl with | [_], _ => rfl
  have f_is_number : Fn0 K mg "is_number" (topS 4) ["thing"] := fn0_of X N ["thing"] a1 l1 c1 k1 fun _ _ _ _ _ _ us hl => match us, hl with | [_], _ => rfl
  have f_is_name : Fn0 K mg "is_name" (topS 5) ["thing"] := fn0_of X N ["thing"] a2 l2 c2 k2 fun _ _ _ _ _ _ us hl => match us, hl with | [_], _ => rfl
  have f_is_form : Fn0 K mg "is_form" (topS 6) ["thing"] := fn0_of X N ["thing"] a3 l3 c3 k3 fun _ _ _ _ _ _ us hl => match us, hl with | [_], _ => rfl
  have f_is_row : Fn0 K mg "is_row" (topS 13) ["thing", "size"] := fn0_of X N ["thing", "size"] a4 l4 c4 k4 fun _ _ _ _ _ _ us hl => match us, hl with | [_, _], _ => rfl
  have f_is_pair_of_tuples : Fn0 K mg "is_pair_of_tuples" (topS 14) ["thing"] := fn0_of X N ["thing"] a5 l5 c5 k5 fun _ _ _ _ _ _ us hl => match us, hl with | [_], _ => rfl
  have f_is_channel_row : Fn0 K mg "is_channel_row" (topS 15) ["thing"] := fn0_of X N ["thing"] a6 l6 c6 k6 fun _ _ _ _ _ _ us hl => match us, hl with | [_], _ => rfl
  have f_ascends : Fn0 K mg "ascends" (topS 17) ["row"] := fn0_of X N ["row"] a7 l7 c7 k7 fun _ _ _ _ _ _ us hl => match us, hl with | [_], _ => rfl
  have f_sides_of : Fn0 K mg "sides_of" (topS 18) ["channels"] := fn0_of X N ["channels"] a8 l8 c8 k8 fun _ _ _ _ _ _ us hl => match us, hl with | [_], _ => rfl
  have f_is_owner : Fn0 K mg "is_owner" (topS 19) ["sides", "name", "doing"] := fn0_of X N ["sides", "name", "doing"] a9 l9 c9 k9 fun _ _ _ _ _ _ us hl => match us, hl with | [_, _, _], _ => rfl
  have f__law_feed : Fn0 K mg "_law_feed" (topS 21) ["_law_script"] := fn0_of X N ["_law_script"] a10 l10 c10 k10 fun _ _ _ _ _ _ us hl => match us, hl with | [_], _ => rfl
  have f__law_draw : Fn0 K mg "_law_draw" (topS 22) ["_law_feed_here", "_law_many"] := fn0_of X N ["_law_feed_here", "_law_many"] a11 l11 c11 k11 fun _ _ _ _ _ _ us hl => match us, hl with | [_, _], _ => rfl
  have f__law_pick : Fn0 K mg "_law_pick" (topS 23) ["_law_feed_here", "_law_things"] := fn0_of X N ["_law_feed_here", "_law_things"] a12 l12 c12 k12 fun _ _ _ _ _ _ us hl => match us, hl with | [_, _], _ => rfl
  have f__law_names : Fn0 K mg "_law_names" (topS 24) ["_law_feed_here", "_law_many"] := fn0_of X N ["_law_feed_here", "_law_many"] a13 l13 c13 k13 fun _ _ _ _ _ _ us hl => match us, hl with | [_, _], _ => rfl
  have f__law_spots : Fn0 K mg "_law_spots" (topS 25) ["_law_feed_here"] := fn0_of X N ["_law_feed_here"] a14 l14 c14 k14 fun _ _ _ _ _ _ us hl => match us, hl with | [_], _ => rfl
  have f__law_doings : Fn0 K mg "_law_doings" (topS 26) ["_law_name", "_law_channels", "_law_letters"] := fn0_of X N ["_law_name", "_law_channels", "_law_letters"] a15 l15 c15 k15 fun _ _ _ _ _ _ us hl => match us, hl with | [_, _, _], _ => rfl
  have f__law_party : Fn0 K mg "_law_party" (topS 27) ["_law_feed_here", "_law_name", "_law_doings_here", "_law_spots_here"] := fn0_of X N ["_law_feed_here", "_law_name", "_law_doings_here", "_law_spots_here"] a16 l16 c16 k16 fun _ _ _ _ _ _ us hl => match us, hl with | [_, _, _, _], _ => rfl
  have f__law_built : Fn0 K mg "_law_built" (topS 28) ["_law_feed_here"] := fn0_of X N ["_law_feed_here"] a17 l17 c17 k17 fun _ _ _ _ _ _ us hl => match us, hl with | [_], _ => rfl
  have f__law_strange : Fn0 K mg "_law_strange" (topS 29) ["_law_feed_here"] := fn0_of X N ["_law_feed_here"] a18 l18 c18 k18 fun _ _ _ _ _ _ us hl => match us, hl with | [_], _ => rfl
  have f__law_spoilt : Fn0 K mg "_law_spoilt" (topS 30) ["_law_feed_here", "_law_thing"] := fn0_of X N ["_law_feed_here", "_law_thing"] a19 l19 c19 k19 fun _ _ _ _ _ _ us hl => match us, hl with | [_, _], _ => rfl
  have f__law_is_number : Fn0 K mg "_law_is_number" (topS 31) ["_law_thing"] := fn0_of X N ["_law_thing"] a20 l20 c20 k20 fun _ _ _ _ _ _ us hl => match us, hl with | [_], _ => rfl
  have f__law_is_name : Fn0 K mg "_law_is_name" (topS 32) ["_law_thing"] := fn0_of X N ["_law_thing"] a21 l21 c21 k21 fun _ _ _ _ _ _ us hl => match us, hl with | [_], _ => rfl
  have f__law_is_sized : Fn0 K mg "_law_is_sized" (topS 33) ["_law_thing", "_law_size"] := fn0_of X N ["_law_thing", "_law_size"] a22 l22 c22 k22 fun _ _ _ _ _ _ us hl => match us, hl with | [_, _], _ => rfl
  have f__law_is_doing : Fn0 K mg "_law_is_doing" (topS 34) ["_law_thing"] := fn0_of X N ["_law_thing"] a23 l23 c23 k23 fun _ _ _ _ _ _ us hl => match us, hl with | [_], _ => rfl
  have f__law_is_arrow : Fn0 K mg "_law_is_arrow" (topS 35) ["_law_thing"] := fn0_of X N ["_law_thing"] a24 l24 c24 k24 fun _ _ _ _ _ _ us hl => match us, hl with | [_], _ => rfl
  have f__law_is_ends : Fn0 K mg "_law_is_ends" (topS 36) ["_law_thing"] := fn0_of X N ["_law_thing"] a25 l25 c25 k25 fun _ _ _ _ _ _ us hl => match us, hl with | [_], _ => rfl
  have f__law_is_channel : Fn0 K mg "_law_is_channel" (topS 37) ["_law_thing"] := fn0_of X N ["_law_thing"] a26 l26 c26 k26 fun _ _ _ _ _ _ us hl => match us, hl with | [_], _ => rfl
  have f__law_is_party : Fn0 K mg "_law_is_party" (topS 38) ["_law_thing"] := fn0_of X N ["_law_thing"] a27 l27 c27 k27 fun _ _ _ _ _ _ us hl => match us, hl with | [_], _ => rfl
  have f__law_is_rising : Fn0 K mg "_law_is_rising" (topS 39) ["_law_rows"] := fn0_of X N ["_law_rows"] a28 l28 c28 k28 fun _ _ _ _ _ _ us hl => match us, hl with | [_], _ => rfl
  have f__law_is_owner : Fn0 K mg "_law_is_owner" (topS 40) ["_law_party_here", "_law_channels"] := fn0_of X N ["_law_party_here", "_law_channels"] a29 l29 c29 k29 fun _ _ _ _ _ _ us hl => match us, hl with | [_, _], _ => rfl
  have f__law_is_program : Fn0 K mg "_law_is_program" (topS 41) ["_law_thing"] := fn0_of X N ["_law_thing"] a30 l30 c30 k30 fun _ _ _ _ _ _ us hl => match us, hl with | [_], _ => rfl
  have f__law_plain_things : Fn0 K mg "_law_plain_things" (topS 43) [] := fn0_of X N [] a31 l31 c31 k31 fun _ _ _ _ _ _ us hl => match us, hl with | [], _ => rfl
  have f__law_plain_tuples : Fn0 K mg "_law_plain_tuples" (topS 44) [] := fn0_of X N [] a32 l32 c32 k32 fun _ _ _ _ _ _ us hl => match us, hl with | [], _ => rfl
  have f__law_parts : Fn0 K mg "_law_parts" (topS 46) ["_law_feed_here", "_law_program"] := fn0_of X N ["_law_feed_here", "_law_program"] a33 l33 c33 k33 fun _ _ _ _ _ _ us hl => match us, hl with | [_, _], _ => rfl
  have f_is_doing : Fn0 K mg "is_doing" (topS 7) ["thing"] := fn0_of X N ["thing"] a34 l34 c34 k34 fun _ _ _ _ _ _ us hl => match us, hl with | [_], _ => rfl
  have f_is_arrow : Fn0 K mg "is_arrow" (topS 8) ["thing"] := fn0_of X N ["thing"] a35 l35 c35 k35 fun _ _ _ _ _ _ us hl => match us, hl with | [_], _ => rfl
  have f_is_channel : Fn0 K mg "is_channel" (topS 9) ["thing"] := fn0_of X N ["thing"] a36 l36 c36 k36 fun _ _ _ _ _ _ us hl => match us, hl with | [_], _ => rfl
  have f_is_event : Fn0 K mg "is_event" (topS 12) ["thing"] := fn0_of X N ["thing"] a37 l37 c37 k37 fun _ _ _ _ _ _ us hl => match us, hl with | [_], _ => rfl
  have f_is_number_set : Fn0 K mg "is_number_set" (topS 16) ["thing"] := fn0_of X N ["thing"] a38 l38 c38 k38 fun _ _ _ _ _ _ us hl => match us, hl with | [_], _ => rfl
  have f_is_party : Fn0 K mg "is_party" (topS 10) ["thing"] := fn0_of X N ["thing"] a39 l39 c39 k39 fun _ _ _ _ _ _ us hl => match us, hl with | [_], _ => rfl
  have f_is_program : Fn0 K mg "is_program" (topS 11) ["thing"] := fn0_of X N ["thing"] a40 l40 c40 k40 fun _ _ _ _ _ _ us hl => match us, hl with | [_], _ => rfl
  have f__law_kinds_right : Fn0 K mg "_law_kinds_right" (topS 42) ["_law_thing"] := fn0_of X N ["_law_thing"] a41 l41 c41 k41 fun _ _ _ _ _ _ us hl => match us, hl with | [_], _ => rfl
  have f__law_long_right : Fn0 K mg "_law_long_right" (topS 45) ["_law_feed_here"] := fn0_of X N ["_law_feed_here"] a42 l42 c42 k42 fun _ _ _ _ _ _ us hl => match us, hl with | [_], _ => rfl
  have f_law : Fn0 K mg "law" (topS 47) ["_law_script"] := fn0_of X N ["_law_script"] a43 l43 c43 k43 fun _ _ _ _ _ _ us hl => match us, hl with | [_], _ => rfl
  have c_FORMS : Cn mg K "FORMS" (.tup [.str "queue", .str "bag", .str "call"]) := cn_tupS (ys := ["queue", "bag", "call"]) X N g0 h0 (by show 3 ≤ sizeLine; decide) (.cons ⟨_, rfl⟩ (.cons ⟨_, rfl⟩ (.cons ⟨_, rfl⟩ .nil)))
  have c_LETTERS := cn_str X N g1
  have B : Blt mg := ⟨PySem.W.mg_none_of X N z_len, PySem.W.mg_none_of X N z_all, PySem.W.mg_none_of X N z_any, PySem.W.mg_none_of X N z_range, PySem.W.mg_none_of X N z_isinstance, PySem.W.mg_none_of X N z_int, PySem.W.mg_none_of X N z_str, PySem.W.mg_none_of X N z_tuple, PySem.W.mg_none_of X N z_bool, PySem.W.mg_none_of X N z_list, PySem.W.mg_none_of X N z_set, PySem.W.mg_none_of X N z_sorted, PySem.W.mg_none_of X N z_enumerate, PySem.W.mg_none_of X N z_sum⟩
  refine own_law hfa law_ok f_law fun base => ?_
  have o_is_integer := d_is_integer (P := P) (w := w) (base := base) f_is_integer B
  have o_is_number := d_is_number (P := P) (w := w) (base := base) f_is_number B o_is_integer
  have o_is_name := d_is_name (P := P) (w := w) (base := base) f_is_name B c_LETTERS
  have o_is_form := d_is_form (P := P) (w := w) (base := base) f_is_form B c_FORMS
  have o_is_row := d_is_row (P := P) (w := w) (base := base) f_is_row B
  have o_is_pair_of_tuples := d_is_pair_of_tuples (P := P) (w := w) (base := base) f_is_pair_of_tuples B o_is_row
  have o_is_channel_row := d_is_channel_row (P := P) (w := w) (base := base) f_is_channel_row B o_is_row o_is_name o_is_form
  have o_ascends := d_ascends (P := P) (w := w) (base := base) f_ascends B
  have o_sides_of := d_sides_of (P := P) (w := w) (base := base) f_sides_of B
  have o_is_owner := d_is_owner (P := P) (w := w) (base := base) f_is_owner B
  have o__law_feed := d__law_feed (P := P) (w := w) (base := base) f__law_feed B
  have o__law_draw := d__law_draw (P := P) (w := w) (base := base) f__law_draw B
  have o__law_pick := d__law_pick (P := P) (w := w) (base := base) f__law_pick B o__law_draw
  have o__law_names := d__law_names (P := P) (w := w) (base := base) f__law_names B o__law_draw o__law_pick
  have o__law_spots := d__law_spots (P := P) (w := w) (base := base) f__law_spots B o__law_draw
  have o__law_doings := d__law_doings (P := P) (w := w) (base := base) f__law_doings B
  have o__law_party := d__law_party (P := P) (w := w) (base := base) f__law_party B o__law_draw o__law_pick
  have o__law_built := d__law_built (P := P) (w := w) (base := base) f__law_built B o__law_names o__law_draw o__law_spots o__law_pick o__law_party o__law_doings
  have o__law_strange := d__law_strange (P := P) (w := w) (base := base) f__law_strange B o__law_pick
  have o__law_spoilt := d__law_spoilt (P := P) (w := w) (base := base) f__law_spoilt B o__law_draw o__law_strange 10
  have o__law_is_number := d__law_is_number (P := P) (w := w) (base := base) f__law_is_number B
  have o__law_is_name := d__law_is_name (P := P) (w := w) (base := base) f__law_is_name B
  have o__law_is_sized := d__law_is_sized (P := P) (w := w) (base := base) f__law_is_sized B
  have o__law_is_doing := d__law_is_doing (P := P) (w := w) (base := base) f__law_is_doing B o__law_is_sized o__law_is_name
  have o__law_is_arrow := d__law_is_arrow (P := P) (w := w) (base := base) f__law_is_arrow B o__law_is_sized o__law_is_doing o__law_is_number
  have o__law_is_ends := d__law_is_ends (P := P) (w := w) (base := base) f__law_is_ends B o__law_is_number
  have o__law_is_channel := d__law_is_channel (P := P) (w := w) (base := base) f__law_is_channel B o__law_is_sized o__law_is_name
  have o__law_is_party := d__law_is_party (P := P) (w := w) (base := base) f__law_is_party B o__law_is_sized o__law_is_name o__law_is_ends o__law_is_arrow
  have o__law_is_rising := d__law_is_rising (P := P) (w := w) (base := base) f__law_is_rising B
  have o__law_is_owner := d__law_is_owner (P := P) (w := w) (base := base) f__law_is_owner B
  have o__law_is_program := d__law_is_program (P := P) (w := w) (base := base) f__law_is_program B o__law_is_sized o__law_is_party o__law_is_channel o__law_is_rising o__law_is_owner
  have o__law_plain_things := d__law_plain_things (P := P) (w := w) (base := base) f__law_plain_things B
  have o__law_plain_tuples := d__law_plain_tuples (P := P) (w := w) (base := base) f__law_plain_tuples B
  have o__law_parts := d__law_parts (P := P) (w := w) (base := base) f__law_parts B o__law_pick o__law_draw
  have o_is_doing := d_is_doing (P := P) (w := w) (base := base) f_is_doing B o_is_row o_is_name
  have o_is_arrow := d_is_arrow (P := P) (w := w) (base := base) f_is_arrow B o_is_row o_is_number o_is_doing
  have o_is_channel := d_is_channel (P := P) (w := w) (base := base) f_is_channel B o_is_channel_row
  have o_is_event := d_is_event (P := P) (w := w) (base := base) f_is_event B o_is_row o_is_name o_is_number
  have o_is_number_set := d_is_number_set (P := P) (w := w) (base := base) f_is_number_set B o_is_number o_ascends
  have o_is_party := d_is_party (P := P) (w := w) (base := base) f_is_party B o_is_row o_is_name o_is_number_set o_is_arrow
  have o_is_program := d_is_program (P := P) (w := w) (base := base) f_is_program B o_is_pair_of_tuples o_is_party o_is_channel o_ascends o_sides_of o_is_owner
  have o__law_kinds_right := d__law_kinds_right (P := P) (w := w) (base := base) f__law_kinds_right B o__law_is_number o__law_is_name o__law_is_doing o__law_is_arrow o__law_is_channel o__law_is_party o__law_is_program o__law_is_sized o_is_integer o_is_number o_is_name o_is_doing o_is_arrow o_is_channel o_is_party o_is_program o_is_event
  have o__law_long_right := d__law_long_right (P := P) (w := w) (base := base) f__law_long_right B o__law_draw o__law_kinds_right
  have o_law := d_law (P := P) (w := w) (base := base) f_law B o__law_feed o__law_plain_things o__law_plain_tuples o__law_parts o__law_built o__law_spoilt o__law_kinds_right o__law_long_right
  exact o_law
end LK
open PySem PySem.W PyProof.Rows
set_option maxHeartbeats 0 in
theorem PySem.Challenge.cw_ascalls_k01_kinds_holds : PySem.Challenge.rw_ascalls_k01_kinds.Holds := by
  w_on; o_law; k_head; (case hw => w_witness2)
  k_fill
  refine L2.walk_of (l := PySem.Challenge.rw_ascalls_k01_kinds) (n := 63) (k := 14) (x := "_law_script") (CX := fun w => L2.CX PySem.Challenge.pw_ascalls_k01_kinds w) (sp := fun w => PL.spLaw _) rfl (by decide) rfl ⟨rfl, by decide, by decide⟩ (fun w h Y => PySem.W.kIn_of Y) ?F (fun _ _ a ns hl _ hS => ⟨a, ns, rfl, hS, hl, fun _ => rfl⟩) ?X
  case X =>
    intro w H s e s' hx
    exact PL.no_cx hx
  case F =>
    intro w mg fa h KX G hmg
    refine' LK.all_mk KX G hmg ?h_a0 ?h_l0 ?h_c0 ?h_k0 ?h_a1 ?h_l1 ?h_c1 ?h_k1 ?h_a2 ?h_l2 ?h_c2 ?h_k2 ?h_a3 ?h_l3 ?h_c3 ?h_k3 ?h_a4 ?h_l4 ?h_c4 ?h_k4 ?h_a5 ?h_l5 ?h_c5 ?h_k5 ?h_a6 ?h_l6 ?h_c6 ?h_k6 ?h_a7 ?h_l7 ?h_c7 ?h_k7 ?h_a8 ?h_l8 ?h_c8 ?h_k8 ?h_a9 ?h_l9 ?h_c9 ?h_k9 ?h_a10 ?h_l10 ?h_c10 ?h_k10 ?h_a11 ?h_l11 ?h_c11 ?h_k11 ?h_a12 ?h_l12 ?h_c12 ?h_k12 ?h_a13 ?h_l13 ?h_c13 ?h_k13 ?h_a14 ?h_l14 ?h_c14 ?h_k14 ?h_a15 ?h_l15 ?h_c15 ?h_k15 ?h_a16 ?h_l16 ?h_c16 ?h_k16 ?h_a17 ?h_l17 ?h_c17 ?h_k17 ?h_a18 ?h_l18 ?h_c18 ?h_k18 ?h_a19 ?h_l19 ?h_c19 ?h_k19 ?h_a20 ?h_l20 ?h_c20 ?h_k20 ?h_a21 ?h_l21 ?h_c21 ?h_k21 ?h_a22 ?h_l22 ?h_c22 ?h_k22 ?h_a23 ?h_l23 ?h_c23 ?h_k23 ?h_a24 ?h_l24 ?h_c24 ?h_k24 ?h_a25 ?h_l25 ?h_c25 ?h_k25 ?h_a26 ?h_l26 ?h_c26 ?h_k26 ?h_a27 ?h_l27 ?h_c27 ?h_k27 ?h_a28 ?h_l28 ?h_c28 ?h_k28 ?h_a29 ?h_l29 ?h_c29 ?h_k29 ?h_a30 ?h_l30 ?h_c30 ?h_k30 ?h_a31 ?h_l31 ?h_c31 ?h_k31 ?h_a32 ?h_l32 ?h_c32 ?h_k32 ?h_a33 ?h_l33 ?h_c33 ?h_k33 ?h_a34 ?h_l34 ?h_c34 ?h_k34 ?h_a35 ?h_l35 ?h_c35 ?h_k35 ?h_a36 ?h_l36 ?h_c36 ?h_k36 ?h_a37 ?h_l37 ?h_c37 ?h_k37 ?h_a38 ?h_l38 ?h_c38 ?h_k38 ?h_a39 ?h_l39 ?h_c39 ?h_k39 ?h_a40 ?h_l40 ?h_c40 ?h_k40 ?h_a41 ?h_l41 ?h_c41 ?h_k41 ?h_a42 ?h_l42 ?h_c42 ?h_k42 ?h_a43 ?h_l43 ?h_c43 ?h_k43 ?h_g0 ?h_h0 ?h_g1 ?h_z_len ?h_z_all ?h_z_any ?h_z_range ?h_z_isinstance ?h_z_int ?h_z_str ?h_z_tuple ?h_z_bool ?h_z_list ?h_z_set ?h_z_sorted ?h_z_enumerate ?h_z_sum
    (case h_a0 => k_is); (case h_l0 => k_is); (case h_c0 => k_is); (case h_k0 => k_is); (case h_a1 => k_is); (case h_l1 => k_is); (case h_c1 => k_is); (case h_k1 => k_is); (case h_a2 => k_is); (case h_l2 => k_is); (case h_c2 => k_is); (case h_k2 => k_is); (case h_a3 => k_is); (case h_l3 => k_is); (case h_c3 => k_is); (case h_k3 => k_is); (case h_a4 => k_is); (case h_l4 => k_is); (case h_c4 => k_is); (case h_k4 => k_is); (case h_a5 => k_is); (case h_l5 => k_is); (case h_c5 => k_is); (case h_k5 => k_is); (case h_a6 => k_is); (case h_l6 => k_is); (case h_c6 => k_is); (case h_k6 => k_is); (case h_a7 => k_is); (case h_l7 => k_is); (case h_c7 => k_is); (case h_k7 => k_is); (case h_a8 => k_is); (case h_l8 => k_is); (case h_c8 => k_is); (case h_k8 => k_is); (case h_a9 => k_is); (case h_l9 => k_is); (case h_c9 => k_is); (case h_k9 => k_is); (case h_a10 => k_is); (case h_l10 => k_is); (case h_c10 => k_is); (case h_k10 => k_is); (case h_a11 => k_is); (case h_l11 => k_is); (case h_c11 => k_is); (case h_k11 => k_is); (case h_a12 => k_is); (case h_l12 => k_is); (case h_c12 => k_is); (case h_k12 => k_is); (case h_a13 => k_is); (case h_l13 => k_is); (case h_c13 => k_is); (case h_k13 => k_is); (case h_a14 => k_is); (case h_l14 => k_is); (case h_c14 => k_is); (case h_k14 => k_is); (case h_a15 => k_is); (case h_l15 => k_is); (case h_c15 => k_is); (case h_k15 => k_is); (case h_a16 => k_is); (case h_l16 => k_is); (case h_c16 => k_is); (case h_k16 => k_is); (case h_a17 => k_is); (case h_l17 => k_is); (case h_c17 => k_is); (case h_k17 => k_is); (case h_a18 => k_is); (case h_l18 => k_is); (case h_c18 => k_is); (case h_k18 => k_is); (case h_a19 => k_is); (case h_l19 => k_is); (case h_c19 => k_is); (case h_k19 => k_is); (case h_a20 => k_is); (case h_l20 => k_is); (case h_c20 => k_is); (case h_k20 => k_is); (case h_a21 => k_is); (case h_l21 => k_is); (case h_c21 => k_is); (case h_k21 => k_is); (case h_a22 => k_is); (case h_l22 => k_is); (case h_c22 => k_is); (case h_k22 => k_is); (case h_a23 => k_is); (case h_l23 => k_is); (case h_c23 => k_is); (case h_k23 => k_is); (case h_a24 => k_is); (case h_l24 => k_is); (case h_c24 => k_is); (case h_k24 => k_is); (case h_a25 => k_is); (case h_l25 => k_is); (case h_c25 => k_is); (case h_k25 => k_is); (case h_a26 => k_is); (case h_l26 => k_is); (case h_c26 => k_is); (case h_k26 => k_is); (case h_a27 => k_is); (case h_l27 => k_is); (case h_c27 => k_is); (case h_k27 => k_is); (case h_a28 => k_is); (case h_l28 => k_is); (case h_c28 => k_is); (case h_k28 => k_is); (case h_a29 => k_is); (case h_l29 => k_is); (case h_c29 => k_is); (case h_k29 => k_is); (case h_a30 => k_is); (case h_l30 => k_is); (case h_c30 => k_is); (case h_k30 => k_is); (case h_a31 => k_is); (case h_l31 => k_is); (case h_c31 => k_is); (case h_k31 => k_is); (case h_a32 => k_is); (case h_l32 => k_is); (case h_c32 => k_is); (case h_k32 => k_is); (case h_a33 => k_is); (case h_l33 => k_is); (case h_c33 => k_is); (case h_k33 => k_is); (case h_a34 => k_is); (case h_l34 => k_is); (case h_c34 => k_is); (case h_k34 => k_is); (case h_a35 => k_is); (case h_l35 => k_is); (case h_c35 => k_is); (case h_k35 => k_is); (case h_a36 => k_is); (case h_l36 => k_is); (case h_c36 => k_is); (case h_k36 => k_is); (case h_a37 => k_is); (case h_l37 => k_is); (case h_c37 => k_is); (case h_k37 => k_is); (case h_a38 => k_is); (case h_l38 => k_is); (case h_c38 => k_is); (case h_k38 => k_is); (case h_a39 => k_is); (case h_l39 => k_is); (case h_c39 => k_is); (case h_k39 => k_is); (case h_a40 => k_is); (case h_l40 => k_is); (case h_c40 => k_is); (case h_k40 => k_is); (case h_a41 => k_is); (case h_l41 => k_is); (case h_c41 => k_is); (case h_k41 => k_is); (case h_a42 => k_is); (case h_l42 => k_is); (case h_c42 => k_is); (case h_k42 => k_is); (case h_a43 => k_is); (case h_l43 => k_is); (case h_c43 => k_is); (case h_k43 => k_is); (case h_g0 => k_is); (case h_h0 => k_is); (case h_g1 => k_is); (case h_z_len => k_is); (case h_z_all => k_is); (case h_z_any => k_is); (case h_z_range => k_is); (case h_z_isinstance => k_is); (case h_z_int => k_is); (case h_z_str => k_is); (case h_z_tuple => k_is); (case h_z_bool => k_is); (case h_z_list => k_is); (case h_z_set => k_is); (case h_z_sorted => k_is); (case h_z_enumerate => k_is); (case h_z_sum => k_is)
