import PyProof.Rows.All
import PySem.Challenge.RW_ascalls_k06_texts
import HandS.ForMost
import HandS.ForExc
import HandS.Lambda
import KE.KDictKeyed
import HandS.Iter
import HandS.IsInst
import HandS.TupAny
import HandS.Text
import HandS.Deep
import PyProof.P3In
import HandS.Style
import HandS.FStr
import HandS.Dict
import HandS.SetFor
import HandS.Strs
import HandS.Defaults
import HandS.ExcInit
import HandS.ExcField
import HandS.Star
import PyProof.Rows.SortStr
import HandS.EndTab
import KE.GoesMore
import PyProof.StrOps2
import HandS.DictComp
import PyProof.Rows.IntBool
import Wide.All
import OpenK.AllK
import Wide.FinOn
set_option Elab.async false
set_option linter.all false
set_option maxRecDepth 100000
set_option maxHeartbeats 4000000
/-! PL1: values D as plain data, the store, the monad M of what a def does, and how they lie in the abstract heap of HandS. -/
namespace PL
open PySem PySem.Spec L2
variable {wW : World}

/-- plain data; ref: a changing object of the store; frz: a list that is read alone (the script) -/
inductive D where
  | non | bl (b : Bool) | int (i : Int) | str (x : Str) | tup (ds : List D) | lst (ds : List D) | frz (ds : List D) | ref (n : Nat)
  deriving Inhabited
/-- an object of the store; tab: where the lambdas of a def keep their code -/
inductive Ob where
  | dict (kvs : List (Key × D)) | lst (ds : List D) | ins (C : Addr) (fs : List (Str × D)) | tab (P : Addr) (q : Str) | nd (kvs : List (D × D))
abbrev Sto := List Ob
structure Exn where
  cls : Str
  fs : List (Str × D)
inductive Res (α : Type) where
  | ok (a : α) (s : Sto) | err (x : Exn) (s : Sto) | bad
def M (α : Type) := Sto → Res α
namespace M
def pure {α : Type} (a : α) : M α := fun s => .ok a s
def bind {α β : Type} (m : M α) (f : α → M β) : M β := fun s => match m s with
  | .ok a s' => f a s'
  | .err x s' => .err x s'
  | .bad => .bad
instance : Monad M where
  pure := M.pure
  bind := M.bind
def bad {α : Type} : M α := fun _ => .bad
def raise {α : Type} (x : Exn) : M α := fun s => .err x s
def get : M Sto := fun s => .ok s s
def set (s : Sto) : M Unit := fun _ => .ok () s
theorem bind_eq {α β : Type} (m : M α) (f : α → M β) : (m >>= f) = M.bind m f := rfl
theorem pure_eq {α : Type} (a : α) : (Pure.pure a : M α) = M.pure a := rfl
theorem pure_bind {α β : Type} (a : α) (f : α → M β) : (M.pure a).bind f = f a := rfl
theorem bind_pure {α : Type} (m : M α) : m.bind M.pure = m := by
  funext s; unfold bind pure; cases m s <;> rfl
theorem bind_assoc {α β γ : Type} (m : M α) (f : α → M β) (g : β → M γ) : (m.bind f).bind g = m.bind fun a => (f a).bind g := by
  funext s; unfold bind; cases m s <;> rfl
theorem bad_bind {α β : Type} (f : α → M β) : (bad : M α).bind f = bad := rfl
theorem raise_bind {α β : Type} (x : Exn) (f : α → M β) : (raise x : M α).bind f = raise x := rfl
instance : LawfulMonad M := LawfulMonad.mk' (m := M) (id_map := fun x => bind_pure x) (pure_bind := fun a f => rfl) (bind_assoc := fun m f g => bind_assoc m f g)
end M

abbrev Mu := Nat → Option Addr
section
variable {K : PySem.W.Frag}
mutual
/-- the value v is the data d, by the fixed part G of the heap -/
inductive Rep (K : PySem.W.Frag) (G : Hp) (μ : Mu) : V → D → Prop
  | non : Rep K G μ .non .non
  | bl (b : Bool) : Rep K G μ (.bl b) (.bl b)
  | int (i : Int) : Rep K G μ (.int i) (.int i)
  | str (x : Str) : Rep K G μ (.str x) (.str x)
  | tup {a : Addr} {vs : List V} {ds : List D} : SqT K G a vs → RepL K G μ vs ds → Rep K G μ (.ref a) (.tup ds)
  | lst {a : Addr} {vs : List V} {ds : List D} : G a = some (.lst vs) → RepL K G μ vs ds → Rep K G μ (.ref a) (.lst ds)
  | frz {a : Addr} {vs : List V} {ds : List D} : SqL K G a vs → RepL K G μ vs ds → Rep K G μ (.ref a) (.frz ds)
  | ref {n : Nat} {a : Addr} : μ n = some a → Rep K G μ (.ref a) (.ref n)
inductive RepL (K : PySem.W.Frag) (G : Hp) (μ : Mu) : List V → List D → Prop
  | nil : RepL K G μ [] []
  | cons {v : V} {vs : List V} {d : D} {ds : List D} : Rep K G μ v d → RepL K G μ vs ds → RepL K G μ (v :: vs) (d :: ds)
end
def Sub (G G' : Hp) : Prop := ∀ a o, G a = some o → G' a = some o
def SubM (μ μ' : Mu) : Prop := ∀ n a, μ n = some a → μ' n = some a
theorem Sub.th {G H : Hp} (s : Sub G H) : ∀ a o, G a = some o → ∃ o', H a = some o' := fun a o h => ⟨o, s a o h⟩
theorem Sub.refl (G : Hp) : Sub G G := fun _ _ h => h
theorem Sub.trans {A B C : Hp} (x : Sub A B) (y : Sub B C) : Sub A C := fun a o h => y a o (x a o h)
theorem Sub.rd {G G' : Hp} (s : Sub G G') {a : Addr} {u : HO} (r : Rd G a u) : Rd G' a u := by
  rcases r with r | ⟨o, r⟩
  · exact .inl (s _ _ r)
  · exact .inr ⟨o, s _ _ r⟩
theorem Sub.sqT {G G' : Hp} (s : Sub G G') {a : Addr} {xs : List V} (r : SqT K G a xs) : SqT K G' a xs := r.imp s.rd id
theorem Sub.sqL {G G' : Hp} (s : Sub G G') {a : Addr} {xs : List V} (r : SqL K G a xs) : SqL K G' a xs := r.imp s.rd id
mutual
theorem Rep.mono {G G' : Hp} {μ μ' : Mu} (s : Sub G G') (m : SubM μ μ') : ∀ {v : V} {d : D}, Rep K G μ v d → Rep K G' μ' v d
  | _, _, .non => .non
  | _, _, .bl b => .bl b
  | _, _, .int i => .int i
  | _, _, .str x => .str x
  | _, _, .tup h r => .tup (s.sqT h) (RepL.mono s m r)
  | _, _, .lst h r => .lst (s _ _ h) (RepL.mono s m r)
  | _, _, .frz h r => .frz (s.sqL h) (RepL.mono s m r)
  | _, _, .ref h => .ref (m _ _ h)
theorem RepL.mono {G G' : Hp} {μ μ' : Mu} (s : Sub G G') (m : SubM μ μ') : ∀ {vs : List V} {ds : List D}, RepL K G μ vs ds → RepL K G' μ' vs ds
  | _, _, .nil => .nil
  | _, _, .cons h r => .cons (Rep.mono s m h) (RepL.mono s m r)
end
theorem RepL.length {G : Hp} {μ : Mu} : ∀ {vs : List V} {ds : List D}, RepL K G μ vs ds → vs.length = ds.length
  | _, _, .nil => rfl
  | _, _, .cons _ r => congrArg (· + 1) (RepL.length r)
theorem RepL.get {G : Hp} {μ : Mu} : ∀ {vs : List V} {ds : List D} {i : Nat} {d : D}, RepL K G μ vs ds → ds[i]? = some d → ∃ v, vs[i]? = some v ∧ Rep K G μ v d
  | _, _, _, _, .nil, e => by simp at e
  | _, _, 0, _, .cons h _, e => by simp at e; subst e; exact ⟨_, rfl, h⟩
  | _, _, i + 1, d, .cons _ r, e => by
    obtain ⟨v, h1, h2⟩ := RepL.get (i := i) (d := d) r (by simpa using e)
    exact ⟨v, by simpa using h1, h2⟩
theorem RepL.get' {G : Hp} {μ : Mu} : ∀ {vs : List V} {ds : List D} {i : Nat} {v : V}, RepL K G μ vs ds → vs[i]? = some v → ∃ d, ds[i]? = some d ∧ Rep K G μ v d
  | _, _, _, _, .nil, e => by simp at e
  | _, _, 0, _, .cons h _, e => by simp at e; subst e; exact ⟨_, rfl, h⟩
  | _, _, i + 1, d, .cons _ r, e => by
    obtain ⟨v, h1, h2⟩ := RepL.get' (i := i) (v := d) r (by simpa using e)
    exact ⟨v, by simpa using h1, h2⟩
theorem RepL.append {G : Hp} {μ : Mu} : ∀ {vs ws : List V} {ds es : List D}, RepL K G μ vs ds → RepL K G μ ws es → RepL K G μ (vs ++ ws) (ds ++ es)
  | _, _, _, _, .nil, s => s
  | _, _, _, _, .cons r t, s => .cons r (RepL.append t s)
theorem RepL.take {G : Hp} {μ : Mu} : ∀ {vs : List V} {ds : List D} (n : Nat), RepL K G μ vs ds → RepL K G μ (vs.take n) (ds.take n)
  | _, _, 0, _ => .nil
  | _, _, _ + 1, .nil => .nil
  | _, _, n + 1, .cons r t => .cons r (RepL.take n t)
theorem RepL.drop {G : Hp} {μ : Mu} : ∀ {vs : List V} {ds : List D} (n : Nat), RepL K G μ vs ds → RepL K G μ (vs.drop n) (ds.drop n)
  | _, _, 0, r => r
  | _, _, _ + 1, .nil => .nil
  | _, _, n + 1, .cons _ t => RepL.drop n t
theorem RepL.set {G : Hp} {μ : Mu} {v : V} {d : D} (r : Rep K G μ v d) : ∀ {vs : List V} {ds : List D} (i : Nat), RepL K G μ vs ds → RepL K G μ (vs.set i v) (ds.set i d)
  | _, _, _, .nil => .nil
  | _, _, 0, .cons _ t => .cons r t
  | _, _, i + 1, .cons q t => .cons q (RepL.set r i t)
theorem RepL.reverse {G : Hp} {μ : Mu} {vs : List V} {ds : List D} (r : RepL K G μ vs ds) : RepL K G μ vs.reverse ds.reverse := by
  induction r using RepL.rec (motive_1 := fun _ _ _ => True) with
  | nil => exact .nil
  | cons h t _ ih => simp only [List.reverse_cons]; exact ih.append (.cons h .nil)
  | _ => trivial

mutual
/-- data as a key of a dict -/
def nkD : D → Option NestedKey
  | .non => some .none
  | .bl b => some (.num (if b = true then 1 else 0))
  | .int i => some (.num i)
  | .str x => some (.text x)
  | .tup ds => (nkL ds).map .tup
  | _ => none
def nkL : List D → Option (List NestedKey)
  | [] => some []
  | d :: ds => (nkD d).bind fun k => (nkL ds).map (k :: ·)
end
def entN (w : World) (x : NestedKey × Addr × Value) : DictEntry := ⟨x.1.hash w, .ref x.2.1, x.2.2⟩
/-- at a: a dict with tuples as keys; ks tells the keys and where their tuples stand -/
def RawN (w : World) (a : Addr) (ks : List (NestedKey × Addr)) (vs : List V) (h : Heap) : Prop :=
  ∃ xs : List (NestedKey × Addr × Value), xs.map (fun x => (x.1, x.2.1)) = ks ∧ Vals vs (xs.map (·.2.2)) ∧ (a == sysModules) = false ∧ xs.length ≤ sizeLine ∧
    ∃ o es ep, h.get? a = some o ∧ o.ExactDict ∧ o.data = .dict es ep ∧ es.toList = xs.map (entN w) ∧ (xs.map (·.1)).Nodup
/-- the pairs kvs, as they lie -/
structure NR (K : PySem.W.Frag) (G : Hp) (μ : Mu) (ks : List (NestedKey × Addr)) (vs : List V) (kvs : List (D × D)) : Prop where
  nk : kvs.map (fun q => nkD q.1) = ks.map (fun k => some k.1)
  dp : ∀ k ∈ ks, k.1.depth ≤ 8
  k : RepL K G μ (ks.map fun k => V.ref k.2) (kvs.map (·.1))
  v : RepL K G μ vs (kvs.map (·.2))
theorem NR.mono {G G' : Hp} {μ μ' : Mu} {ks : List (NestedKey × Addr)} {vs : List V} {kvs : List (D × D)} (x : NR K G μ ks vs kvs) (s : Sub G G') (m : SubM μ μ') : NR K G' μ' ks vs kvs := ⟨x.nk, x.dp, x.k.mono s m, x.v.mono s m⟩
/-- the store's object o at a -/
def OR (wW : World) (K : PySem.W.Frag) (G : Hp) (μ : Mu) (H : Hp) (a : Addr) : Ob → Prop
  | .dict kvs => ∃ ws, H a = some (.dK ws) ∧ ws.map (·.1) = kvs.map (·.1) ∧ RepL K G μ (ws.map (·.2)) (kvs.map (·.2))
  | .lst ds => ∃ vs, H a = some (.lst vs) ∧ RepL K G μ vs ds
  | .ins C fs => ∃ dx ws, H a = some (.ins C dx ws) ∧ ws.map (·.1) = fs.map (·.1) ∧ RepL K G μ (ws.map (·.2)) (fs.map (·.2))
  | .tab P q => a = P ∧ ∃ ps : Array Value, H a = some (.tbl ps) ∧ TriplesOk ps.toList ∧ ∀ (pos : Pos) (cv : Value), codeAmong pos ps.toList = some cv → ∃ c, cv = .ref c ∧ G c = some (LamX.CodeO c q)
  | .nd kvs => ∃ ks vs, H a = some (.ext (RawN wW a ks vs)) ∧ NR K G μ ks vs kvs
theorem OR.mono {G G' H H' : Hp} {μ μ' : Mu} {a : Addr} {o : Ob} (x : OR wW K G μ H a o) (s : Sub G G') (m : SubM μ μ') (e : ∀ u, H a = some u → H' a = some u) : OR wW K G' μ' H' a o := by
  cases o with
  | dict kvs => obtain ⟨ws, h, k, r⟩ := x; exact ⟨ws, e _ h, k, r.mono s m⟩
  | lst ds => obtain ⟨vs, h, r⟩ := x; exact ⟨vs, e _ h, r.mono s m⟩
  | ins C fs => obtain ⟨dx, ws, h, k, r⟩ := x; exact ⟨dx, ws, e _ h, k, r.mono s m⟩
  | tab P q => obtain ⟨e0, ps, h, t, k⟩ := x; exact ⟨e0, ps, e _ h, t, fun pos cv hc => let ⟨c, c1, c2⟩ := k pos cv hc; ⟨c, c1, s _ _ c2⟩⟩
  | nd kvs => obtain ⟨ks, vs, h, r⟩ := x; exact ⟨ks, vs, e _ h, r.mono s m⟩
theorem OR.there {G H : Hp} {μ : Mu} {a : Addr} {o : Ob} (x : OR wW K G μ H a o) : ∃ u, H a = some u := by
  cases o with
  | dict kvs => obtain ⟨ws, h, _⟩ := x; exact ⟨_, h⟩
  | lst ds => obtain ⟨vs, h, _⟩ := x; exact ⟨_, h⟩
  | ins C fs => obtain ⟨dx, ws, h, _⟩ := x; exact ⟨_, h⟩
  | tab P q => obtain ⟨_, ps, h, _⟩ := x; exact ⟨_, h⟩
  | nd kvs => obtain ⟨ks, vs, h, _⟩ := x; exact ⟨_, h⟩

/-- the abstract heap bears the store -/
structure Wd (wW : World) (K : PySem.W.Frag) (H G : Hp) (μ : Mu) (st : Sto) : Prop where
  imm : Sub G H
  obj : ∀ n o, st[n]? = some o → ∃ a, μ n = some a ∧ G a = none ∧ OR wW K G μ H a o
  inj : ∀ n m a, μ n = some a → μ m = some a → n = m
  dom : ∀ n a, μ n = some a → n < st.length
/-- from one state to a later one: what is not of the store stands as it was -/
structure Stp (H G : Hp) (μ : Mu) (H' G' : Hp) (μ' : Mu) : Prop where
  g : Sub G G'
  m : SubM μ μ'
  fr : ∀ a o, H a = some o → (∀ n, μ n ≠ some a) → H' a = some o
  th : ∀ a o, H a = some o → ∃ o', H' a = some o'
  ng : ∀ a, G a = none → G' a ≠ none → H a = none
  nm : ∀ n a, μ n = none → μ' n = some a → H a = none
section
variable {H G H1 G1 H2 G2 : Hp} {μ μ1 μ2 : Mu} {st st1 : Sto}
theorem Stp.refl : Stp H G μ H G μ := ⟨fun _ _ h => h, fun _ _ h => h, fun _ _ h _ => h, fun _ o h => ⟨o, h⟩, fun _ e n => absurd e n, fun _ _ e n => by rw [e] at n; cases n⟩
theorem Stp.trans (x : Stp H G μ H1 G1 μ1) (y : Stp H1 G1 μ1 H2 G2 μ2) : Stp H G μ H2 G2 μ2 where
  g := x.g.trans y.g
  m := fun n a h => y.m n a (x.m n a h)
  fr := fun a o h n => y.fr a o (x.fr a o h n) fun k e => by
    cases q : μ k with
    | some b =>
      have := x.m k b q
      rw [e] at this; cases this
      exact n k q
    | none => have := x.nm k a q e; rw [h] at this; cases this
  th := fun a o h => let ⟨o1, h1⟩ := x.th a o h; y.th a o1 h1
  ng := fun a e n => by
    cases q : G1 a with
    | some o => exact x.ng a e (by rw [q]; simp)
    | none =>
      have h1 := y.ng a q n
      cases r : H a with
      | none => rfl
      | some o => obtain ⟨o', h'⟩ := x.th a o r; rw [h1] at h'; cases h'
  nm := fun k a e n => by
    cases q : μ1 k with
    | some b =>
      have := y.m k b q
      rw [n] at this; cases this
      exact x.nm k a e q
    | none =>
      have h1 := y.nm k a q n
      cases r : H a with
      | none => rfl
      | some o => obtain ⟨o', h'⟩ := x.th a o r; rw [h1] at h'; cases h'
/-- a fresh address gets an object that is fixed -/
theorem Wd.new (w : Wd wW K H G μ st) {p : Addr} {o : HO} (hp : H p = none) : Wd wW K (upd H p o) (upd G p o) μ st ∧ Stp H G μ (upd H p o) (upd G p o) μ := by
  have gp : G p = none := by
    cases q : G p with
    | none => rfl
    | some u => have := w.imm _ _ q; rw [hp] at this; cases this
  have sg : Sub G (upd G p o) := fun a u h => by rw [upd_ne (ne_of_none h gp)]; exact h
  refine ⟨⟨fun a u h => ?_, fun n x e => ?_, w.inj, w.dom⟩, ⟨sg, fun _ _ h => h, fun a u h _ => by rw [upd_ne (ne_of_none h hp)]; exact h, fun a u h => ⟨u, by rw [upd_ne (ne_of_none h hp)]; exact h⟩, fun a e n => ?_, fun n a e q => by rw [e] at q; cases q⟩⟩
  · by_cases ha : a = p
    · subst ha; rw [upd_same] at h ⊢; exact h
    · rw [upd_ne ha] at h ⊢; exact w.imm _ _ h
  · obtain ⟨a, h1, h2, h3⟩ := w.obj n x e
    obtain ⟨u, hu⟩ := h3.there
    have ne : a ≠ p := ne_of_none hu hp
    exact ⟨a, h1, by rw [upd_ne ne]; exact h2, h3.mono sg (fun _ _ h => h) fun v hv => by rw [upd_ne ne]; exact hv⟩
  · by_cases ha : a = p
    · subst ha; exact hp
    · rw [upd_ne ha] at n; exact absurd e n
/-- .. an object that is not told -/
theorem Wd.lay (w : Wd wW K H G μ st) {p : Addr} {o : HO} (hp : H p = none) : Wd wW K (upd H p o) G μ st ∧ Stp H G μ (upd H p o) G μ := by
  refine ⟨⟨fun a u h => by rw [upd_ne (ne_of_none (w.imm _ _ h) hp)]; exact w.imm _ _ h, fun n x e => ?_, w.inj, w.dom⟩, ⟨fun _ _ h => h, fun _ _ h => h, fun a u h _ => by rw [upd_ne (ne_of_none h hp)]; exact h, fun a u h => ⟨u, by rw [upd_ne (ne_of_none h hp)]; exact h⟩, fun _ e n => absurd e n, fun n a e q => by rw [e] at q; cases q⟩⟩
  obtain ⟨a, h1, h2, h3⟩ := w.obj n x e
  obtain ⟨u, hu⟩ := h3.there
  have ne : a ≠ p := ne_of_none hu hp
  exact ⟨a, h1, h2, h3.mono (fun _ _ h => h) (fun _ _ h => h) fun v hv => by rw [upd_ne ne]; exact hv⟩
/-- a new object of the store -/
def muAdd (μ : Mu) (n : Nat) (p : Addr) : Mu := fun m => if m = n then some p else μ m
theorem Wd.add (w : Wd wW K H G μ st) {p : Addr} {o : HO} {x : Ob} (hp : H p = none) (hx : OR wW K G (muAdd μ st.length p) (upd H p o) p x) : Wd wW K (upd H p o) G (muAdd μ st.length p) (st ++ [x]) ∧ Stp H G μ (upd H p o) G (muAdd μ st.length p) := by
  have nn : μ st.length = none := by
    cases q : μ st.length with
    | none => rfl
    | some a => exact absurd (w.dom _ _ q) (Nat.lt_irrefl _)
  have sm : SubM μ (muAdd μ st.length p) := fun n a h => by
    unfold muAdd; rw [if_neg (fun e => by rw [e, nn] at h; cases h)]; exact h
  have gp : G p = none := by
    cases q : G p with
    | none => rfl
    | some u => have := w.imm _ _ q; rw [hp] at this; cases this
  have nep : ∀ n, μ n ≠ some p := fun n e => by
    have hl := w.dom n p e
    obtain ⟨a, h1, _, h3⟩ := w.obj n _ (List.getElem?_eq_getElem hl)
    rw [e] at h1; cases h1
    obtain ⟨u, hu⟩ := h3.there
    rw [hp] at hu; cases hu
  refine ⟨⟨fun a u h => by rw [upd_ne (ne_of_none (w.imm _ _ h) hp)]; exact w.imm _ _ h, fun n y e => ?_, fun n m a e1 e2 => ?_, fun n a e => ?_⟩, ⟨fun _ _ h => h, sm, fun a u h _ => by rw [upd_ne (ne_of_none h hp)]; exact h, fun a u h => ⟨u, by rw [upd_ne (ne_of_none h hp)]; exact h⟩, fun _ e n => absurd e n, fun n a e q => ?_⟩⟩
  · by_cases hn : n = st.length
    · subst hn
      rw [List.getElem?_concat_length] at e
      cases e
      exact ⟨p, by unfold muAdd; rw [if_pos rfl], gp, hx⟩
    · have hlt : n < st.length := by
        have := (List.getElem?_eq_some_iff.mp e).1
        rw [List.length_append, List.length_singleton] at this
        omega
      rw [List.getElem?_append_left hlt] at e
      obtain ⟨a, h1, h2, h3⟩ := w.obj n y e
      obtain ⟨u, hu⟩ := h3.there
      have ne : a ≠ p := ne_of_none hu hp
      exact ⟨a, sm _ _ h1, h2, h3.mono (fun _ _ h => h) sm fun v hv => by rw [upd_ne ne]; exact hv⟩
  · unfold muAdd at e1 e2
    by_cases h1 : n = st.length <;> by_cases h2 : m = st.length
    · rw [h1, h2]
    · rw [if_pos h1] at e1; rw [if_neg h2] at e2; cases e1; exact absurd e2 (nep m)
    · rw [if_neg h1] at e1; rw [if_pos h2] at e2; cases e2; exact absurd e1 (nep n)
    · rw [if_neg h1] at e1; rw [if_neg h2] at e2; exact w.inj n m a e1 e2
  · unfold muAdd at e
    rw [List.length_append, List.length_singleton]
    by_cases h1 : n = st.length
    · omega
    · rw [if_neg h1] at e
      have := w.dom n a e
      omega
  · unfold muAdd at q
    by_cases h1 : n = st.length
    · rw [if_pos h1] at q; cases q; exact hp
    · rw [if_neg h1, e] at q; cases q
/-- an object of the store is changed -/
theorem Wd.write (w : Wd wW K H G μ st) {n : Nat} {p : Addr} {o : HO} {x y : Ob} (hs : st[n]? = some y) (hn : μ n = some p) (hx : OR wW K G μ (upd H p o) p x) : Wd wW K (upd H p o) G μ (st.set n x) ∧ Stp H G μ (upd H p o) G μ := by
  obtain ⟨p', e1, gp, q⟩ := w.obj n y hs
  rw [hn] at e1; cases e1
  obtain ⟨u0, hu0⟩ := q.there
  have hlt : n < st.length := (List.getElem?_eq_some_iff.mp hs).1
  refine ⟨⟨fun a u h => ?_, fun m z e => ?_, w.inj, fun m a e => by rw [List.length_set]; exact w.dom m a e⟩, ⟨fun _ _ h => h, fun _ _ h => h, fun a u h k => ?_, fun a u h => ?_, fun _ e n => absurd e n, fun m a e q => by rw [e] at q; cases q⟩⟩
  · have ne : a ≠ p := fun e => by rw [e, gp] at h; cases h
    rw [upd_ne ne]; exact w.imm _ _ h
  · by_cases hm : m = n
    · subst hm
      rw [List.getElem?_set_self hlt] at e
      cases e
      exact ⟨p, hn, gp, hx⟩
    · rw [List.getElem?_set_ne (Ne.symm hm)] at e
      obtain ⟨a, h1, h2, h3⟩ := w.obj m z e
      have ne : a ≠ p := fun e => hm (w.inj m n p (e ▸ h1) hn)
      exact ⟨a, h1, h2, h3.mono (fun _ _ h => h) (fun _ _ h => h) fun v hv => by rw [upd_ne ne]; exact hv⟩
  · have ne : a ≠ p := fun e => k n (e ▸ hn)
    rw [upd_ne ne]; exact h
  · by_cases ha : a = p
    · subst ha; exact ⟨o, upd_same⟩
    · exact ⟨u, by rw [upd_ne ha]; exact h⟩
end
end
end PL

set_option linter.all false
set_option maxRecDepth 100000
set_option maxHeartbeats 4000000
/-! PL2: slots, the judgements JE (an expression does f), JB (borrowed), JA (arguments), JS, JSs (statements), and their base rules. -/
namespace PL
open PySem PySem.Spec L2
variable {wW : World}

/-- a slot of a def: nothing known, a value, a list that this slot alone holds -/
inductive Slot where
  | no | val (d : D) | own (ds : List D)
  deriving Inhabited
abbrev En := List Slot

/-- a value that may be a list in its owner's hands -/
def BRep (K : PySem.W.Frag) (H G : Hp) (μ : Mu) (v : V) (d : D) : Prop :=
  Rep K G μ v d ∨ ∃ a vs ds, v = .ref a ∧ d = .lst ds ∧ H a = some (.lst vs) ∧ RepL K G μ vs ds ∧ True
/-- .. out of the store: what others do leaves it as it is -/
def BSt (K : PySem.W.Frag) (H G : Hp) (μ : Mu) (v : V) (d : D) : Prop :=
  Rep K G μ v d ∨ ∃ a vs ds, v = .ref a ∧ d = .lst ds ∧ H a = some (.lst vs) ∧ RepL K G μ vs ds ∧ ∀ n, μ n ≠ some a

structure ER (K : PySem.W.Frag) (H G : Hp) (μ : Mu) (H0 : Hp) (ρ : En) (σ : L2.St) : Prop where
  val : ∀ (i : Nat) d, ρ[i]? = some (.val d) → ∃ v, σ[i]? = some (some v) ∧ Rep K G μ v d
  own : ∀ (i : Nat) ds, ρ[i]? = some (.own ds) → ∃ a vs, σ[i]? = some (some (.ref a)) ∧ H a = some (.lst vs) ∧ RepL K G μ vs ds ∧ G a = none ∧ (∀ n, μ n ≠ some a) ∧ H0 a = none
  inj : ∀ (i j : Nat) ds es a, ρ[i]? = some (.own ds) → ρ[j]? = some (.own es) → σ[i]? = some (some (.ref a)) → σ[j]? = some (some (.ref a)) → i = j
  len : ρ.length = σ.length
  old : ∀ a o, H0 a = some o → ∃ o', H a = some o'
section
variable {K : PySem.W.Frag} {H G H1 G1 H0 : Hp} {μ μ1 : Mu} {ρ : En} {σ : L2.St} {v : V} {d : D}
theorem BSt.weak (r : BSt K H G μ v d) : BRep K H G μ v d := r.imp id fun ⟨a, vs, ds, h1, h2, h3, h4, _⟩ => ⟨a, vs, ds, h1, h2, h3, h4, trivial⟩
theorem BSt.step (r : BSt K H G μ v d) (s : Stp H G μ H1 G1 μ1) : BSt K H1 G1 μ1 v d := by
  rcases r with r | ⟨a, vs, ds, e1, e2, h, r, n⟩
  · exact .inl (r.mono s.g s.m)
  · refine .inr ⟨a, vs, ds, e1, e2, s.fr a _ h n, r.mono s.g s.m, fun k e => ?_⟩
    cases q : μ k with
    | some b => have := s.m k b q; rw [e] at this; cases this; exact n k q
    | none => have := s.nm k a q e; rw [h] at this; cases this
theorem ER.step (e : ER K H G μ H0 ρ σ) (s : Stp H G μ H1 G1 μ1) : ER K H1 G1 μ1 H0 ρ σ where
  val := fun i d q => let ⟨v, h1, h2⟩ := e.val i d q; ⟨v, h1, h2.mono s.g s.m⟩
  own := fun i ds q => by
    obtain ⟨a, vs, h1, h2, h3, h4, h5, h6⟩ := e.own i ds q
    refine ⟨a, vs, h1, s.fr a _ h2 h5, h3.mono s.g s.m, ?_, fun k e => ?_, h6⟩
    · cases q : G1 a with
      | none => rfl
      | some o => have := s.ng a h4 (by rw [q]; simp); rw [h2] at this; cases this
    · cases q : μ k with
      | some b => have := s.m k b q; rw [e] at this; cases this; exact h5 k q
      | none => have := s.nm k a q e; rw [h2] at this; cases this
  inj := e.inj
  len := e.len
  old := fun a o h => let ⟨o1, h1⟩ := e.old a o h; s.th a o1 h1
end

/-- how an exception lies -/
structure XRep (K : PySem.W.Frag) (mg : Str → Option Value) (G : Hp) (μ : Mu) (x : Exn) (c : Value) (dd : Option Addr) (H : Hp) : Prop where
  cls : mg x.cls = some c
  fs : ∃ d ws, dd = some d ∧ H d = some (.xd ws) ∧ ws.map (·.1) = x.fs.map (·.1) ∧ RepL K G μ (ws.map (·.2)) (x.fs.map (·.2))

/-- how a result lies: the heap ahead, the heap behind, its fixed part, the store's places, the result, its data -/
structure RR (β α : Type) where
  r : Hp → Hp → Hp → Mu → β → α → Prop
  anti : ∀ {H H1 H' G' : Hp} {μ' : Mu} {v : β} {a : α}, (∀ b o, H b = some o → ∃ o', H1 b = some o') → r H1 H' G' μ' v a → r H H' G' μ' v a
/-- what is wanted behind m, from (H, G, μ) on; R: how the result lies -/
def Post {α : Type} {β : Type} (wW : World) (K : PySem.W.Frag) (mg : Str → Option Value) (E : XK) (R : RR β α) (H G : Hp) (μ : Mu) (r : Res α) (Q : β → Hp → Prop) : Prop :=
  match r with
  | .ok a st' => ∀ v H' G' μ', Wd wW K H' G' μ' st' → Stp H G μ H' G' μ' → R.r H H' G' μ' v a → Q v H'
  | .err x st' => ∀ c dd H' G' μ', Wd wW K H' G' μ' st' → Stp H G μ H' G' μ' → XRep K mg G' μ' x c dd H' → E c dd H'
  | .bad => False
section
variable {K : PySem.W.Frag} {mg : Str → Option Value} {E : XK} {α β : Type} {R R' : RR β α} {H G H1 G1 : Hp} {μ μ1 : Mu} {r : Res α} {Q Q' : β → Hp → Prop}
theorem Post.step (p : Post wW K mg E R H G μ r Q) (s : Stp H G μ H1 G1 μ1) : Post wW K mg E R H1 G1 μ1 r Q := by
  cases r with
  | ok a st => exact fun v H' G' μ' w t q => p v H' G' μ' w (s.trans t) (R.anti s.th q)
  | err x st => exact fun c dd H' G' μ' w t q => p c dd H' G' μ' w (s.trans t) q
  | bad => exact p
theorem Post.imp (p : Post wW K mg E R H G μ r Q) (h : ∀ H0 H' G' μ' v a, R'.r H0 H' G' μ' v a → R.r H0 H' G' μ' v a) : Post wW K mg E R' H G μ r Q := by
  cases r with
  | ok a st => exact fun v H' G' μ' w t q => p v H' G' μ' w t (h _ _ _ _ _ _ q)
  | err x st => exact p
  | bad => exact p
/-- the way through a bind; what is wanted is still told from the first state on -/
theorem Post.raw {γ δ : Type} {R2 : RR δ γ} {m : M γ} {f : γ → M α} {st : Sto} {Q2 : δ → Hp → Prop} (p : Post wW K mg E R H G μ (m.bind f st) Q)
    (h : ∀ a st' v H' G' μ', Wd wW K H' G' μ' st' → Stp H G μ H' G' μ' → R2.r H H' G' μ' v a → Post wW K mg E R H G μ (f a st') Q → Q2 v H') : Post wW K mg E R2 H G μ (m st) Q2 := by
  unfold M.bind at p
  cases e : m st with
  | ok a st' =>
    rw [e] at p
    exact fun v H' G' μ' w t q => h a st' v H' G' μ' w t q p
  | err x st' =>
    rw [e] at p
    exact p
  | bad => rw [e] at p; exact p
theorem Post.bind {γ δ : Type} {R2 : RR δ γ} {m : M γ} {f : γ → M α} {st : Sto} {Q2 : δ → Hp → Prop} (p : Post wW K mg E R H G μ (m.bind f st) Q)
    (h : ∀ a st' v H' G' μ', Wd wW K H' G' μ' st' → Stp H G μ H' G' μ' → R2.r H H' G' μ' v a → Post wW K mg E R H' G' μ' (f a st') Q → Q2 v H') : Post wW K mg E R2 H G μ (m st) Q2 :=
  p.raw fun a st' v H' G' μ' w t q p' => h a st' v H' G' μ' w t q (p'.step t)
end

def rRep (K : PySem.W.Frag) : RR V D := ⟨fun _ _ G μ v d => Rep K G μ v d, fun _ h => h⟩
def rBRep (K : PySem.W.Frag) : RR V D := ⟨fun _ H G μ v d => BSt K H G μ v d, fun _ h => h⟩
def rRepL (K : PySem.W.Frag) : RR (List V) (List D) := ⟨fun _ _ G μ v d => RepL K G μ v d, fun _ h => h⟩
def rTrue : RR Bool Bool := ⟨fun _ _ _ _ v d => v = d, fun _ h => h⟩
/-- a list that was made, in no other's hands -/
def Fresh (K : PySem.W.Frag) (H H' G : Hp) (μ : Mu) (v : V) (ds : List D) : Prop := ∃ a vs, v = .ref a ∧ H' a = some (.lst vs) ∧ RepL K G μ vs ds ∧ G a = none ∧ (∀ n, μ n ≠ some a) ∧ H a = none
theorem none_before {H H1 : Hp} (t : ∀ b o, H b = some o → ∃ o', H1 b = some o') {a : Addr} (h : H1 a = none) : H a = none := by
  cases q : H a with
  | none => rfl
  | some o => obtain ⟨o', h'⟩ := t a o q; rw [h] at h'; cases h'
def rFresh (K : PySem.W.Frag) : RR V (List D) := ⟨fun H H' G μ v ds => Fresh K H H' G μ v ds, fun t ⟨a, vs, h1, h2, h3, h4, h5, h6⟩ => ⟨a, vs, h1, h2, h3, h4, h5, none_before t h6⟩⟩

/-- the reading of what does f -/
def Se {α β : Type} (X : Cx) (E : XK) (H0 : Hp) (R : RR β α) (f : En → M α)   : L2.St → Hp → (β → Hp → Prop) → Prop := fun σ H Q =>
  ∃ G μ st ρ, Wd X.w X.K H G μ st ∧ ER X.K H G μ H0 ρ σ ∧ Post X.w X.K X.mg E R H G μ (f ρ st) Q
/-- an expression that does f, without a change of the slots -/
def JE (X : Cx) (E : XK) (H0 : Hp) (f : En → M D) (e : Expr) : Prop := PE X e (Se X E H0 (rRep X.K) f)
def JB (X : Cx) (E : XK) (H0 : Hp) (f : En → M D) (e : Expr) : Prop := PE X e (Se X E H0 (rBRep X.K) f)
def JA (X : Cx) (E : XK) (H0 : Hp) (f : En → M (List D)) (es : List Expr) : Prop := PA X es (Se X E H0 (rRepL X.K) f)
def JT (X : Cx) (E : XK) (H0 : Hp) (f : En → M Bool) (e : Expr) : Prop := PT X e (Se X E H0 rTrue f)

section
variable {X : Cx} {E : XK} {H0 : Hp} {e a b : Expr} {f g : En → M D} {pos : Pos}
theorem PE.imp {t t' : TE} (h : PE X e t) (q : ∀ σ H Q, t' σ H Q → t σ H Q) : PE X e t' := ⟨fun pins s σ H Q I x => h.run pins s σ H Q I (q _ _ _ x)⟩
theorem PT.imp {t t' : TT} (h : PT X e t) (q : ∀ σ H Q, t' σ H Q → t σ H Q) : PT X e t' := ⟨fun pins s σ H Q I x => h.run pins s σ H Q I (q _ _ _ x)⟩
theorem PA.imp {es : List Expr} {t t' : TA} (h : PA X es t) (q : ∀ σ H Q, t' σ H Q → t σ H Q) : PA X es t' := ⟨fun pos pins s σ H Q I x => h.run pos pins s σ H Q I (q _ _ _ x)⟩
theorem PS.imp {st : Stmt} {t t' : TS} (h : PS X st t) (q : ∀ D σ H, t' D σ H → t D σ H) : PS X st t' := ⟨fun pins s σ H D I x => h.run pins s σ H D I (q _ _ _ x)⟩
theorem PSs.imp {st : List Stmt} {t t' : TS} (h : PSs X st t) (q : ∀ D σ H, t' D σ H → t D σ H) : PSs X st t' := ⟨fun pins s σ H D I x => h.run pins s σ H D I (q _ _ _ x)⟩
theorem JE.jb (h : JE X E H0 f e) : JB X E H0 f e := PE.imp h fun σ H Q ⟨G, μ, st, ρ, w, er, p⟩ => ⟨G, μ, st, ρ, w, er, p.imp fun _ _ _ _ _ _ r => .inl r⟩

/-! ### names and constants -/
def eVar (i : Nat) : En → M D := fun ρ => match ρ[i]? with
  | some (.val d) => M.pure d
  | _ => M.bad
/-- a name whose list is looked at -/
def eLook (i : Nat) : En → M D := fun ρ => match ρ[i]? with
  | some (.val d) => M.pure d
  | some (.own ds) => M.pure (.lst ds)
  | _ => M.bad
theorem je_var {i : Nat} {x : Str} (hN : X.N[i]? = some x) (hv : Vis X.env.scope x) (hd : (x == ("__debug__" : Str)) = false := by decide) (hcd : (x == ("__classdict__" : Str)) = false := by decide) : JE X E H0 (eVar i) (.Name x pos) := by
  refine PE.imp (pe_var hN hv hd hcd) fun σ H Q ⟨G, μ, st, ρ, w, er, p⟩ => ?_
  unfold eVar at p
  cases q : ρ[i]? with
  | none => rw [q] at p; exact p.elim
  | some s =>
    rw [q] at p
    cases s with
    | no => exact p.elim
    | own ds => exact p.elim
    | val d =>
      obtain ⟨v, h1, h2⟩ := er.val i d q
      exact ⟨v, h1, p v H G μ w .refl h2⟩
theorem jb_look {i : Nat} {x : Str} (hN : X.N[i]? = some x) (hv : Vis X.env.scope x) (hd : (x == ("__debug__" : Str)) = false := by decide) (hcd : (x == ("__classdict__" : Str)) = false := by decide) : JB X E H0 (eLook i) (.Name x pos) := by
  refine PE.imp (pe_var hN hv hd hcd) fun σ H Q ⟨G, μ, st, ρ, w, er, p⟩ => ?_
  unfold eLook at p
  cases q : ρ[i]? with
  | none => rw [q] at p; exact p.elim
  | some s =>
    rw [q] at p
    cases s with
    | no => exact p.elim
    | own ds =>
      obtain ⟨a, vs, h1, h2, h3, h4, h5, h6⟩ := er.own i ds q
      exact ⟨_, h1, p _ H G μ w .refl (.inr ⟨a, vs, ds, rfl, rfl, h2, h3, h5⟩)⟩
    | val d =>
      obtain ⟨v, h1, h2⟩ := er.val i d q
      exact ⟨v, h1, p v H G μ w .refl (.inl h2)⟩
def eC (d : D) : En → M D := fun _ => M.pure d
theorem je_c {v : V} {d : D} (h : PE X e (tC v)) (r : ∀ G μ, Rep X.K G μ v d) : JE X E H0 (eC d) e := PE.imp h fun σ H Q ⟨G, μ, st, ρ, w, er, p⟩ => p v H G μ w .refl (r G μ)
theorem je_int {i : Int} {j : Nat} : JE X E H0 (eC (.int i)) (.Constant (.int i) j pos) := je_c pe_int fun _ _ => .int i
theorem je_bl {b : Bool} {j : Nat} : JE X E H0 (eC (.bl b)) (.Constant (.bool b) j pos) := je_c pe_bl fun _ _ => .bl b
theorem je_non {j : Nat} : JE X E H0 (eC .non) (.Constant .none j pos) := je_c pe_non fun _ _ => .non
theorem je_str {x : Str} {j : Nat} : JE X E H0 (eC (.str x)) (.Constant (.str x) j pos) := je_c pe_str fun _ _ => .str x
/-- a module's constant -/
theorem je_glob {x : Str} {v : V} {u : Value} {d : D} (hg : Gl X x) (hm : X.mg x = some u) (r : RelV v u) (rd : ∀ G μ, Rep X.K G μ v d) (hd : (x == ("__debug__" : Str)) = false := by decide) : JE X E H0 (eC d) (.Name x pos) := je_c (pe_glob hg hm r hd) rd

/-! ### operators, by values -/
def e2 (p : D → D → M D) (f g : En → M D) : En → M D := fun ρ => (f ρ).bind fun x => (g ρ).bind fun y => p x y
/-- two operands that may be borrowed -/
def OpJ (X : Cx) (E : XK) (r : R2) (p : D → D → M D) : Prop :=
  ∀ (H G : Hp) (μ : Mu) (st : Sto) (x y : V) (dx dy : D) (Q : VK), Wd X.w X.K H G μ st → BRep X.K H G μ x dx → BRep X.K H G μ y dy → Post X.w X.K X.mg E (rRep X.K) H G μ (p dx dy st) Q → r x y H Q
theorem se2 {r : R2} {p : D → D → M D} (hp : OpJ X E r p) {ta tb : TE} (ha : ∀ σ H Q, Se X E H0 (rBRep X.K) f σ H Q → ta σ H Q) (hb : ∀ σ H Q, Se X E H0 (rBRep X.K) g σ H Q → tb σ H Q) :
    ∀ σ H Q, Se X E H0 (rRep X.K) (e2 p f g) σ H Q → tOp r ta tb σ H Q := by
  intro σ H Q ⟨G, μ, st, ρ, w, er, q⟩
  refine ha _ _ _ ⟨G, μ, st, ρ, w, er, Post.bind q fun dx st1 x H1 G1 μ1 w1 s1 r1 q1 => ?_⟩
  refine hb _ _ _ ⟨G1, μ1, st1, ρ, w1, er.step s1, Post.bind q1 fun dy st2 y H2 G2 μ2 w2 s2 r2 q2 => ?_⟩
  exact hp H2 G2 μ2 st2 x y dx dy Q w2 (r1.step s2).weak r2.weak q2
theorem je_op {op : Operator} {r : R2} {p : D → D → M D} (ho : OpR X (binaryOp op) r) (hp : OpJ X E r p) (ha : JB X E H0 f a) (hb : JB X E H0 g b) : JE X E H0 (e2 p f g) (.BinOp a op b pos) :=
  PE.imp (pe_op ho ha hb) (se2 hp (fun _ _ _ h => h) fun _ _ _ h => h)
theorem je_cmp {op : CmpOp} {r : R2} {p : D → D → M D} (ho : OpR X (compareOp op) r) (hp : OpJ X E r p) (ha : JB X E H0 f a) (hb : JB X E H0 g b) (hm : behindInMarks op b = false) : JE X E H0 (e2 p f g) (.Compare a [op] [b] pos) :=
  PE.imp (pe_cmpR ho ha hb hm) (se2 hp (fun _ _ _ h => h) fun _ _ _ h => h)
theorem je_ix {r : R2} {p : D → D → M D} (ho : IxR X r) (hp : OpJ X E r p) (ha : JB X E H0 f a) (hb : JB X E H0 g b) (hs : PlainIx b) : JE X E H0 (e2 p f g) (.Subscript a b pos) :=
  PE.imp (pe_ix ho ha hb hs) (se2 hp (fun _ _ _ h => h) fun _ _ _ h => h)

/-! ### arguments -/
def aNil : En → M (List D) := fun _ => M.pure []
def aCons (f : En → M D) (g : En → M (List D)) : En → M (List D) := fun ρ => (f ρ).bind fun x => (g ρ).bind fun xs => M.pure (x :: xs)
theorem ja_nil : JA X E H0 aNil [] := PA.imp pa_nil fun σ H Q ⟨G, μ, st, ρ, w, er, p⟩ => p [] H G μ w .refl .nil
theorem ja_cons {es : List Expr} {g : En → M (List D)} (ha : JE X E H0 f e) (hr : JA X E H0 g es) (hs : starEach (e :: es) X.env = (false, eval e X.env) :: starEach es X.env := by rfl) : JA X E H0 (aCons f g) (e :: es) := by
  refine PA.imp (pa_cons ha hr hs) fun σ H Q ⟨G, μ, st, ρ, w, er, q⟩ => ?_
  refine ⟨G, μ, st, ρ, w, er, Post.bind q fun dx st1 x H1 G1 μ1 w1 s1 r1 q1 => ?_⟩
  refine ⟨G1, μ1, st1, ρ, w1, er.step s1, Post.bind q1 fun dy st2 y H2 G2 μ2 w2 s2 r2 q2 => ?_⟩
  exact q2 _ H2 G2 μ2 w2 .refl (.cons (Rep.mono s2.g s2.m r1) r2)

/-! ### displays -/
def line (n : Nat) : M Unit := fun s => if n ≤ sizeLine then .ok () s else .bad
def eTup (g : En → M (List D)) : En → M D := fun ρ => (g ρ).bind fun xs => (line xs.length).bind fun _ => M.pure (.tup xs)
def eLst (g : En → M (List D)) : En → M D := fun ρ => (g ρ).bind fun xs => (line xs.length).bind fun _ => M.pure (.lst xs)
theorem Post.line {α β : Type} {R : RR β α} {H G : Hp} {μ : Mu} {n : Nat} {m : M α} {st : Sto} {Q : β → Hp → Prop} (p : Post X.w X.K X.mg E R H G μ ((line n).bind (fun _ => m) st) Q) : n ≤ sizeLine ∧ Post X.w X.K X.mg E R H G μ (m st) Q := by
  unfold M.bind PL.line at p
  by_cases h : n ≤ sizeLine
  · simp only [if_pos h] at p; exact ⟨h, p⟩
  · simp only [if_neg h] at p; exact p.elim
theorem je_tup {es : List Expr} {g : En → M (List D)} {k : Nat} (h : JA X E H0 g es) : JE X E H0 (eTup g) (.Tuple es k pos) := by
  refine PE.imp (pe_tup h) fun σ H Q ⟨G, μ, st, ρ, w, er, q⟩ => ?_
  refine ⟨G, μ, st, ρ, w, er, Post.bind q fun ds st1 xs H1 G1 μ1 w1 s1 r1 q1 => ?_⟩
  obtain ⟨hl, q1⟩ := q1.line
  refine ⟨by rw [RepL.length r1]; exact hl, fun p hp => ?_⟩
  obtain ⟨w2, s2⟩ := w1.new (o := .tup xs) hp
  exact q1 _ _ _ _ w2 s2 (.tup (.inl (.inl upd_same)) (RepL.mono s2.g s2.m r1))
theorem je_lst {es : List Expr} {g : En → M (List D)} (h : JA X E H0 g es) : JE X E H0 (eLst g) (.List es pos) := by
  refine PE.imp (pe_lst h) fun σ H Q ⟨G, μ, st, ρ, w, er, q⟩ => ?_
  refine ⟨G, μ, st, ρ, w, er, Post.bind q fun ds st1 xs H1 G1 μ1 w1 s1 r1 q1 => ?_⟩
  obtain ⟨hl, q1⟩ := q1.line
  refine ⟨by rw [RepL.length r1]; exact hl, fun p hp => ?_⟩
  obtain ⟨w2, s2⟩ := w1.new (o := .lst xs) hp
  exact q1 _ _ _ _ w2 s2 (.lst upd_same (RepL.mono s2.g s2.m r1))

/-! ### built-in calls with one argument, which may be borrowed -/
def e1 (p : D → M D) (f : En → M D) : En → M D := fun ρ => (f ρ).bind p
def C1J (X : Cx) (E : XK) (r : List V → Hp → VK → Prop) (p : D → M D) : Prop :=
  ∀ (H G : Hp) (μ : Mu) (st : Sto) (x : V) (dx : D) (Q : VK), Wd X.w X.K H G μ st → BRep X.K H G μ x dx → Post X.w X.K X.mg E (rRep X.K) H G μ (p dx st) Q → r [x] H Q
theorem pa_one {ta : TE} (ha : PE X e ta) (hs : starEach [e] X.env = (false, eval e X.env) :: starEach [] X.env := by rfl) : PA X [e] (tCons ta tNil) := pa_cons ha pa_nil hs
theorem se1 {r : List V → Hp → VK → Prop} {p : D → M D} (hp : C1J X E r p) : ∀ σ H Q, Se X E H0 (rRep X.K) (e1 p f) σ H Q → tCB r (tCons (Se X E H0 (rBRep X.K) f) tNil) σ H Q := by
  intro σ H Q ⟨G, μ, st, ρ, w, er, q⟩
  refine ⟨G, μ, st, ρ, w, er, Post.bind q fun dx st1 x H1 G1 μ1 w1 s1 r1 q1 => ?_⟩
  exact hp H1 G1 μ1 st1 x dx Q w1 r1.weak q1
theorem je_callB {x : Str} {id : String} {p0 : Pos} {r : List V → Hp → VK → Prop} {p : D → M D} (hc : CallR X (.builtin id) r) (hp : C1J X E r p) (hg : Gl X x) (hm : X.mg x = none) (hv : bootBuiltins x = some (.builtin id)) (ha : JB X E H0 f e) (hn : x ≠ "__name__" := by decide) (hdb : (x == ("__debug__" : Str)) = false := by decide)
    (hs : starEach [e] X.env = (false, eval e X.env) :: starEach [] X.env := by rfl) (hpl : (backTo pos (starEach [] X.env)).any (·.1) = false := by rfl) : JE X E H0 (e1 p f) (.Call (.Name x p0) [e] [] pos) :=
  PE.imp (pe_callB hc hg hm hv (pa_one ha hs) hn hdb hs hpl) (se1 hp)
theorem je_callTy {x : Str} {T : String} {p0 : Pos} {r : List V → Hp → VK → Prop} {p : D → M D} (hc : CallR X (.type T) r) (hp : C1J X E r p) (hg : Gl X x) (hm : X.mg x = none) (hv : bootBuiltins x = some (.type T)) (ha : JB X E H0 f e) (hn : x ≠ "__name__" := by decide) (hdb : (x == ("__debug__" : Str)) = false := by decide)
    (hs : starEach [e] X.env = (false, eval e X.env) :: starEach [] X.env := by rfl) (hpl : (backTo pos (starEach [] X.env)).any (·.1) = false := by rfl) : JE X E H0 (e1 p f) (.Call (.Name x p0) [e] [] pos) :=
  PE.imp (pe_callTy hc hg hm hv (pa_one ha hs) hn hdb hs hpl) (se1 hp)

/-! ### tests -/
def tBl (f : En → M D) : En → M Bool := fun ρ => (f ρ).bind fun d => match d with
  | .bl b => M.pure b
  | _ => M.bad
/-- a test by an expression that gives a bool -/
theorem jt_val (ha : JE X E H0 f e) (he : ∀ whole, isTrue e X.env whole = (do let v ← whole; standAt e.pos; holding [v] (truthy v)) := by intro _; rfl) : JT X E H0 (tBl f) e := by
  refine PT.imp (pt_val ha he) fun σ H Q ⟨G, μ, st, ρ, w, er, q⟩ => ?_
  refine ⟨G, μ, st, ρ, w, er, Post.bind q fun d st1 x H1 G1 μ1 w1 s1 r1 q1 => ?_⟩
  cases r1 with
  | bl b => exact ⟨b, rfl, q1 _ _ _ _ w1 .refl rfl⟩
  | _ => exact q1.elim
/-- a comparison as a test -/
theorem jt_cmp {op : CmpOp} {r : R2} {p : D → D → M D} (ho : OpR X (compareOp op) r) (hp : OpJ X E r p) (ha : JB X E H0 f a) (hb : JB X E H0 g b) (hm : behindInMarks op b = false) : JT X E H0 (tBl (e2 p f g)) (.Compare a [op] [b] pos) := by
  refine PT.imp (pt_cmpR ho ha hb hm) fun σ H Q ⟨G, μ, st, ρ, w, er, q⟩ => ?_
  refine se2 (f := f) (g := g) (p := p) (E := E) (H0 := H0) hp (fun _ _ _ h => h) (fun _ _ _ h => h) _ _ _ ⟨G, μ, st, ρ, w, er, Post.bind q fun d st1 x H1 G1 μ1 w1 s1 r1 q1 => ?_⟩
  cases r1 with
  | bl b => exact ⟨b, rfl, q1 _ _ _ _ w1 .refl rfl⟩
  | _ => exact q1.elim
def tNt (t : En → M Bool) : En → M Bool := fun ρ => (t ρ).bind fun b => M.pure (!b)
def tAn (t u : En → M Bool) : En → M Bool := fun ρ => (t ρ).bind fun b => if b = true then u ρ else M.pure false
def tOor (t u : En → M Bool) : En → M Bool := fun ρ => (t ρ).bind fun b => if b = true then M.pure true else u ρ
def JW (X : Cx) (E : XK) (H0 : Hp) (f : En → M Bool) (e : Expr) : Prop := PW X e (Se X E H0 rTrue f)
variable {t u : En → M Bool} {rest : List Expr}
theorem PW.imp {e : Expr} {t t' : TT} (h : PW X e t) (q : ∀ σ H Q, t' σ H Q → t σ H Q) : PW X e t' := ⟨fun wh pins s σ H Q I x => h.run wh pins s σ H Q I (q _ _ _ x)⟩
theorem JW.jt (h : JW X E H0 t e) : JT X E H0 t e := PW.pt h
theorem jt_not (ha : JT X E H0 t a) : JT X E H0 (tNt t) (.UnaryOp .Not a pos) := PT.imp (pt_not ha) fun σ H Q ⟨G, μ, st, ρ, w, er, q⟩ =>
  ⟨G, μ, st, ρ, w, er, Post.bind q fun d st1 x H1 G1 μ1 w1 s1 r1 q1 => by cases r1; exact q1 _ _ _ _ w1 .refl rfl⟩
theorem jw_and1 (ha : JT X E H0 t a) : JW X E H0 t (.BoolOp .And [a] pos) := pw_and1 ha
theorem jw_or1 (ha : JT X E H0 t a) : JW X E H0 t (.BoolOp .Or [a] pos) := pw_or1 ha
theorem jw_and (ha : JT X E H0 t a) (hb : JW X E H0 u (.BoolOp .And (b :: rest) pos)) : JW X E H0 (tAn t u) (.BoolOp .And (a :: b :: rest) pos) := PW.imp (pw_and ha hb) fun σ H Q ⟨G, μ, st, ρ, w, er, q⟩ =>
  ⟨G, μ, st, ρ, w, er, Post.bind q fun d st1 x H1 G1 μ1 w1 s1 r1 q1 => by
    cases r1
    cases d with
    | true => exact ⟨G1, μ1, st1, ρ, w1, er.step s1, q1⟩
    | false => exact q1 _ _ _ _ w1 .refl rfl⟩
theorem jw_or (ha : JT X E H0 t a) (hb : JW X E H0 u (.BoolOp .Or (b :: rest) pos)) : JW X E H0 (tOor t u) (.BoolOp .Or (a :: b :: rest) pos) := PW.imp (pw_or ha hb) fun σ H Q ⟨G, μ, st, ρ, w, er, q⟩ =>
  ⟨G, μ, st, ρ, w, er, Post.bind q fun d st1 x H1 G1 μ1 w1 s1 r1 q1 => by
    cases r1
    cases d with
    | false => exact ⟨G1, μ1, st1, ρ, w1, er.step s1, q1⟩
    | true => exact q1 _ _ _ _ w1 .refl rfl⟩
/-! ### .. as values -/
def vAnd (f g : En → M D) : En → M D := fun ρ => (f ρ).bind fun d => match d with
  | .bl true => g ρ
  | .bl false => M.pure (.bl false)
  | _ => M.bad
def vOr (f g : En → M D) : En → M D := fun ρ => (f ρ).bind fun d => match d with
  | .bl true => M.pure (.bl true)
  | .bl false => g ρ
  | _ => M.bad
def vNot (f : En → M D) : En → M D := fun ρ => (f ρ).bind fun d => match d with
  | .bl b => M.pure (.bl (!b))
  | _ => M.bad
theorem je_one {op : BoolOp} (h : JE X E H0 f a) : JE X E H0 f (.BoolOp op [a] pos) := pe_one h
theorem je_and (ha : JE X E H0 f a) (hb : JE X E H0 g (.BoolOp .And (b :: rest) pos)) : JE X E H0 (vAnd f g) (.BoolOp .And (a :: b :: rest) pos) := PE.imp (pe_and ha hb) fun σ H Q ⟨G, μ, st, ρ, w, er, q⟩ =>
  ⟨G, μ, st, ρ, w, er, Post.bind q fun d st1 x H1 G1 μ1 w1 s1 r1 q1 => by
    cases r1 with
    | bl b =>
      refine ⟨b, rfl, ?_⟩
      cases b with
      | true => exact ⟨G1, μ1, st1, ρ, w1, er.step s1, q1⟩
      | false => exact q1 _ _ _ _ w1 .refl (.bl false)
    | _ => exact q1.elim⟩
theorem je_or (ha : JE X E H0 f a) (hb : JE X E H0 g (.BoolOp .Or (b :: rest) pos)) : JE X E H0 (vOr f g) (.BoolOp .Or (a :: b :: rest) pos) := PE.imp (pe_or ha hb) fun σ H Q ⟨G, μ, st, ρ, w, er, q⟩ =>
  ⟨G, μ, st, ρ, w, er, Post.bind q fun d st1 x H1 G1 μ1 w1 s1 r1 q1 => by
    cases r1 with
    | bl b =>
      refine ⟨b, rfl, ?_⟩
      cases b with
      | false => exact ⟨G1, μ1, st1, ρ, w1, er.step s1, q1⟩
      | true => exact q1 _ _ _ _ w1 .refl (.bl true)
    | _ => exact q1.elim⟩
theorem je_not (ha : JE X E H0 f a) : JE X E H0 (vNot f) (.UnaryOp .Not a pos) := PE.imp (pe_not ha) fun σ H Q ⟨G, μ, st, ρ, w, er, q⟩ =>
  ⟨G, μ, st, ρ, w, er, Post.bind q fun d st1 x H1 G1 μ1 w1 s1 r1 q1 => by
    cases r1 with
    | bl b => exact ⟨b, rfl, q1 _ _ _ _ w1 .refl (.bl _)⟩
    | _ => exact q1.elim⟩
def eIf (t : En → M Bool) (f g : En → M D) : En → M D := fun ρ => (t ρ).bind fun b => if b = true then f ρ else g ρ
theorem je_if {c : Expr} (hc : JT X E H0 t c) (ha : JE X E H0 f a) (hb : JE X E H0 g b) : JE X E H0 (eIf t f g) (.IfExp c a b pos) := PE.imp (pe_ifExp hc ha hb) fun σ H Q ⟨G, μ, st, ρ, w, er, q⟩ =>
  ⟨G, μ, st, ρ, w, er, Post.bind q fun d st1 x H1 G1 μ1 w1 s1 r1 q1 => by
    cases r1
    cases d with
    | true => exact ⟨G1, μ1, st1, ρ, w1, er.step s1, q1⟩
    | false => exact ⟨G1, μ1, st1, ρ, w1, er.step s1, q1⟩⟩
end
end PL

set_option linter.all false
set_option maxRecDepth 100000
set_option maxHeartbeats 4000000
/-! PL3: lists that are made; statements; defs. -/
namespace PL
open PySem PySem.Spec L2
variable {wW : World}

section
variable {K : PySem.W.Frag} {H G H1 G1 H0 : Hp} {μ μ1 : Mu} {st : Sto} {ρ : En} {σ : L2.St} {v : V} {d : D}
/-- a list goes out of its owner's hands: it is fixed from now on -/
theorem Wd.freeze (w : Wd wW K H G μ st) {a : Addr} {o : HO} (h : H a = some o) (g : G a = none) (n : ∀ k, μ k ≠ some a) : Wd wW K H (upd G a o) μ st := by
  have sg : Sub G (upd G a o) := fun b u e => by rw [upd_ne (ne_of_none e g)]; exact e
  refine ⟨fun b u e => ?_, fun k x e => ?_, w.inj, w.dom⟩
  · by_cases hb : b = a
    · subst hb; rw [upd_same] at e; cases e; exact h
    · rw [upd_ne hb] at e; exact w.imm _ _ e
  · obtain ⟨b, h1, h2, h3⟩ := w.obj k x e
    have ne : b ≠ a := fun z => n k (z ▸ h1)
    exact ⟨b, h1, by rw [upd_ne ne]; exact h2, h3.mono sg (fun _ _ h => h) fun _ h => h⟩
theorem Stp.freeze (s : Stp H G μ H1 G1 μ1) {a : Addr} {o : HO} (g : G1 a = none) (h0 : H a = none) : Stp H G μ H1 (upd G1 a o) μ1 :=
  ⟨fun b u e => by rw [upd_ne (ne_of_none (s.g _ _ e) g)]; exact s.g _ _ e, s.m, s.fr, s.th, fun b e n => by
    by_cases hb : b = a
    · rw [hb]; exact h0
    · rw [upd_ne hb] at n; exact s.ng b e n, s.nm⟩
theorem subUpd {a : Addr} {o : HO} (g : G a = none) : Sub G (upd G a o) := fun b u e => by rw [upd_ne (ne_of_none e g)]; exact e
theorem Stp.pure_refl : Stp H G μ H G μ := .refl
/-- an object out of the store and out of the fixed part is written -/
theorem Wd.over (w : Wd wW K H G μ st) {a : Addr} {o : HO} (g : G a = none) (n : ∀ k, μ k ≠ some a) : Wd wW K (upd H a o) G μ st := by
  refine ⟨fun b u e => ?_, fun k x e => ?_, w.inj, w.dom⟩
  · rw [upd_ne (fun z => by rw [z, g] at e; cases e)]; exact w.imm _ _ e
  · obtain ⟨b, h1, h2, h3⟩ := w.obj k x e
    have ne : b ≠ a := fun z => n k (z ▸ h1)
    exact ⟨b, h1, h2, h3.mono (fun _ _ h => h) (fun _ _ h => h) fun v hv => by rw [upd_ne ne]; exact hv⟩
theorem Stp.over (s : Stp H G μ H1 G1 μ1) {a : Addr} {o : HO} (h0 : H a = none) : Stp H G μ (upd H1 a o) G1 μ1 :=
  ⟨s.g, s.m, fun b u e n => by rw [upd_ne (ne_of_none e h0)]; exact s.fr b u e n, fun b u e => by
    obtain ⟨u', h'⟩ := s.th b u e
    by_cases hb : b = a
    · subst hb; exact ⟨o, upd_same⟩
    · exact ⟨u', by rw [upd_ne hb]; exact h'⟩, s.ng, s.nm⟩

theorem ER.set (e : ER K H G μ H0 ρ σ) {i : Nat} (hi : i < ρ.length) (r : Rep K G μ v d) : ER K H G μ H0 (ρ.set i (.val d)) (σ.set i (some v)) where
  val := fun j d' q => by
    by_cases h : i = j
    · subst h
      rw [List.getElem?_set_self hi] at q
      cases q
      exact ⟨v, List.getElem?_set_self (by rw [← e.len]; exact hi), r⟩
    · rw [List.getElem?_set_ne h] at q
      rw [List.getElem?_set_ne h]
      exact e.val j d' q
  own := fun j ds q => by
    by_cases h : i = j
    · subst h
      rw [List.getElem?_set_self hi] at q
      cases q
    · rw [List.getElem?_set_ne h] at q
      rw [List.getElem?_set_ne h]
      exact e.own j ds q
  inj := fun j k ds es a q1 q2 z1 z2 => by
    by_cases h : i = j
    · subst h
      rw [List.getElem?_set_self hi] at q1
      cases q1
    · by_cases h' : i = k
      · subst h'
        rw [List.getElem?_set_self hi] at q2
        cases q2
      · rw [List.getElem?_set_ne h] at q1 z1
        rw [List.getElem?_set_ne h'] at q2 z2
        exact e.inj j k ds es a q1 q2 z1 z2
  len := by rw [List.length_set, List.length_set]; exact e.len
  old := e.old
/-- a slot takes a list that was made -/
theorem ER.setOwn (e : ER K H G μ H0 ρ σ) {i : Nat} (hi : i < ρ.length) {a : Addr} {vs : List V} {ds : List D} (h : H a = some (.lst vs)) (r : RepL K G μ vs ds) (g : G a = none) (n : ∀ k, μ k ≠ some a) (h0 : H0 a = none)
    (fresh : ∀ (j : Nat) es, ρ[j]? = some (.own es) → σ[j]? ≠ some (some (.ref a))) : ER K H G μ H0 (ρ.set i (.own ds)) (σ.set i (some (.ref a))) where
  val := fun j d' q => by
    by_cases h : i = j
    · subst h
      rw [List.getElem?_set_self hi] at q
      cases q
    · rw [List.getElem?_set_ne h] at q
      rw [List.getElem?_set_ne h]
      exact e.val j d' q
  own := fun j ds' q => by
    by_cases hj : i = j
    · subst hj
      rw [List.getElem?_set_self hi] at q
      cases q
      exact ⟨a, vs, List.getElem?_set_self (by rw [← e.len]; exact hi), h, r, g, n, h0⟩
    · rw [List.getElem?_set_ne hj] at q
      rw [List.getElem?_set_ne hj]
      exact e.own j ds' q
  inj := fun j k es fs b q1 q2 z1 z2 => by
    have hi' : i < σ.length := by rw [← e.len]; exact hi
    by_cases hj : i = j <;> by_cases hk : i = k
    · exact hj.symm.trans hk
    · subst hj
      rw [List.getElem?_set_self hi'] at z1
      rw [List.getElem?_set_ne hk] at q2 z2
      cases z1
      exact absurd z2 (fresh k fs q2)
    · subst hk
      rw [List.getElem?_set_self hi'] at z2
      rw [List.getElem?_set_ne hj] at q1 z1
      cases z2
      exact absurd z1 (fresh j es q1)
    · rw [List.getElem?_set_ne hj] at q1 z1
      rw [List.getElem?_set_ne hk] at q2 z2
      exact e.inj j k es fs b q1 q2 z1 z2
  len := by rw [List.length_set, List.length_set]; exact e.len
  old := e.old
/-- slot i gives its list out -/
theorem ER.freeze (e : ER K H G μ H0 ρ σ) {i : Nat} {ds : List D} (hi : ρ[i]? = some (.own ds)) {a : Addr} {vs : List V} (ha : σ[i]? = some (some (.ref a))) (h : H a = some (.lst vs)) (r : RepL K G μ vs ds) (g : G a = none) :
    ER K H (upd G a (.lst vs)) μ H0 (ρ.set i (.val (.lst ds))) σ where
  val := fun j d' q => by
    have hl := (List.getElem?_eq_some_iff.mp hi).1
    by_cases h : i = j
    · subst h
      rw [List.getElem?_set_self hl] at q
      cases q
      exact ⟨_, ha, .lst upd_same (r.mono (subUpd g) fun _ _ h => h)⟩
    · rw [List.getElem?_set_ne h] at q
      obtain ⟨v, h1, h2⟩ := e.val j d' q
      exact ⟨v, h1, h2.mono (subUpd g) fun _ _ h => h⟩
  own := fun j es q => by
    have hl := (List.getElem?_eq_some_iff.mp hi).1
    by_cases hj : i = j
    · subst hj
      rw [List.getElem?_set_self hl] at q
      cases q
    · rw [List.getElem?_set_ne hj] at q
      obtain ⟨b, ws, h1, h2, h3, h4, h5, h6⟩ := e.own j es q
      refine ⟨b, ws, h1, h2, h3.mono (subUpd g) fun _ _ h => h, ?_, h5, h6⟩
      rw [upd_ne (fun z => hj (e.inj i j ds es a hi q ha (by rw [h1, z])))]
      exact h4
  inj := fun j k es fs b q1 q2 z1 z2 => by
    have hl := (List.getElem?_eq_some_iff.mp hi).1
    by_cases hj : i = j
    · subst hj
      rw [List.getElem?_set_self hl] at q1
      cases q1
    · by_cases hk : i = k
      · subst hk
        rw [List.getElem?_set_self hl] at q2
        cases q2
      · rw [List.getElem?_set_ne hj] at q1
        rw [List.getElem?_set_ne hk] at q2
        exact e.inj j k es fs b q1 q2 z1 z2
  len := by rw [List.length_set]; exact e.len
  old := e.old
end

/-! ### lists that are made -/
/-- an expression that makes a list -/
def JF (X : Cx) (E : XK) (H0 : Hp) (f : En → M (List D)) (e : Expr) : Prop := PE X e (Se X E H0 (rFresh X.K) f)
def eL (f : En → M (List D)) : En → M D := fun ρ => (f ρ).bind fun ds => M.pure (.lst ds)
section
variable {X : Cx} {E : XK} {H0 : Hp} {e a b : Expr} {f g : En → M D} {fl : En → M (List D)} {pos : Pos}
/-- .. given out at once -/
theorem JF.je (h : JF X E H0 fl e) : JE X E H0 (eL fl) e := PE.imp h fun σ H Q ⟨G, μ, st, ρ, w, er, q⟩ =>
  ⟨G, μ, st, ρ, w, er, Post.raw q fun ds st1 v H1 G1 μ1 w1 s1 r1 q1 => by
    obtain ⟨a, vs, rfl, h1, h2, h3, h4, h5⟩ := r1
    exact q1 _ _ _ _ (w1.freeze h1 h3 h4) (s1.freeze h3 h5) (.lst upd_same (h2.mono (subUpd h3) fun _ _ h => h))⟩
/-- a list display that stays in its maker's hands -/
def fLst (g : En → M (List D)) : En → M (List D) := fun ρ => (g ρ).bind fun xs => (line xs.length).bind fun _ => M.pure xs
theorem jf_lst {es : List Expr} {g : En → M (List D)} (h : JA X E H0 g es) : JF X E H0 (fLst g) (.List es pos) := by
  refine PE.imp (pe_lst h) fun σ H Q ⟨G, μ, st, ρ, w, er, q⟩ => ?_
  refine ⟨G, μ, st, ρ, w, er, Post.bind q fun ds st1 xs H1 G1 μ1 w1 s1 r1 q1 => ?_⟩
  obtain ⟨hl, q1⟩ := q1.line
  refine ⟨by rw [RepL.length r1]; exact hl, fun p hp => ?_⟩
  obtain ⟨w2, s2⟩ := w1.lay (o := .lst xs) hp
  have gp : G1 p = none := none_before w1.imm.th hp
  refine q1 _ _ _ _ w2 s2 ⟨p, xs, rfl, upd_same, r1, gp, fun k e => ?_, hp⟩
  obtain ⟨b, h1, _, h3⟩ := w1.obj k _ (List.getElem?_eq_getElem (w1.dom k p e))
  rw [e] at h1; cases h1
  obtain ⟨u, hu⟩ := h3.there
  rw [hp] at hu; cases hu

/-! ### statements -/
structure Ent where
  H : Hp
  G : Hp
  μ : Mu
inductive Fl where
  | nx | ret (d : D) | brk | ct
/-- what is wanted behind a statement, from the def's entry Φ on -/
def PostS (X : Cx) (E : XK) (Φ : Ent) (Dn : Ends) (r : Res (Fl × En)) : Prop :=
  match r with
  | .ok (fl, ρ') st' => ∀ σ' H' G' μ', Wd X.w X.K H' G' μ' st' → ER X.K H' G' μ' Φ.H ρ' σ' → Stp Φ.H Φ.G Φ.μ H' G' μ' → match fl with
    | .nx => Dn.nx σ' H'
    | .brk => Dn.bk σ' H'
    | .ct => Dn.ct σ' H'
    | .ret d => ∀ v, Rep X.K G' μ' v d → Dn.rt v H'
  | .err x st' => ∀ c dd H' G' μ', Wd X.w X.K H' G' μ' st' → Stp Φ.H Φ.G Φ.μ H' G' μ' → XRep X.K X.mg G' μ' x c dd H' → E c dd H'
  | .bad => False
def SeS (X : Cx) (E : XK) (Φ : Ent) (f : En → M (Fl × En)) : TS := fun Dn σ H =>
  ∃ G μ st ρ, Wd X.w X.K H G μ st ∧ ER X.K H G μ Φ.H ρ σ ∧ Stp Φ.H Φ.G Φ.μ H G μ ∧ PostS X E Φ Dn (f ρ st)
def JS (X : Cx) (E : XK) (Φ : Ent) (f : En → M (Fl × En)) (st : Stmt) : Prop := PS X st (SeS X E Φ f)
def JSs (X : Cx) (E : XK) (Φ : Ent) (f : En → M (Fl × En)) (st : List Stmt) : Prop := PSs X st (SeS X E Φ f)

section
variable {Φ : Ent} {Dn : Ends} {G H : Hp} {μ : Mu}
/-- the way from an expression into what follows in the def -/
theorem PostS.bind {γ δ : Type} {R2 : RR δ γ} {m : M γ} {k : γ → M (Fl × En)} {st : Sto} {Q2 : δ → Hp → Prop} (p : PostS X E Φ Dn (m.bind k st)) (s : Stp Φ.H Φ.G Φ.μ H G μ)
    (h : ∀ a st' v H' G' μ', Wd X.w X.K H' G' μ' st' → Stp H G μ H' G' μ' → Stp Φ.H Φ.G Φ.μ H' G' μ' → R2.r H H' G' μ' v a → PostS X E Φ Dn (k a st') → Q2 v H') : Post X.w X.K X.mg E R2 H G μ (m st) Q2 := by
  unfold M.bind at p
  cases e : m st with
  | ok a st' =>
    rw [e] at p
    exact fun v H' G' μ' w t q => h a st' v H' G' μ' w t (s.trans t) q p
  | err x st' =>
    rw [e] at p
    exact fun c dd H' G' μ' w t q => p c dd H' G' μ' w (s.trans t) q
  | bad => rw [e] at p; exact p
theorem PostS.nx {ρ : En} {st : Sto} {σ' : L2.St} {H' G' : Hp} {μ' : Mu} (p : PostS X E Φ Dn (M.pure (Fl.nx, ρ) st)) (w : Wd X.w X.K H' G' μ' st) (er : ER X.K H' G' μ' Φ.H ρ σ') (s : Stp Φ.H Φ.G Φ.μ H' G' μ') : Dn.nx σ' H' := p σ' H' G' μ' w er s
end

def sNil : En → M (Fl × En) := fun ρ => M.pure (.nx, ρ)
def sSeq (f g : En → M (Fl × En)) : En → M (Fl × En) := fun ρ => (f ρ).bind fun r => match r.1 with
  | .nx => g r.2
  | _ => M.pure r
section
variable {Φ : Ent} {s1 s2 : En → M (Fl × En)} {st0 : Stmt} {rest : List Stmt} {t : En → M Bool}
theorem jss_nil : JSs X E Φ sNil [] := PSs.imp pss_nil fun Dn σ H ⟨G, μ, st, ρ, w, er, s, p⟩ => p σ H G μ w er s
theorem seq_ok {Dn : Ends} {σ : L2.St} {H : Hp} (h : SeS X E Φ (sSeq s1 s2) Dn σ H) : SeS X E Φ s1 { Dn with nx := SeS X E Φ s2 Dn } σ H := by
  obtain ⟨G, μ, st, ρ, w, er, s, p⟩ := h
  refine ⟨G, μ, st, ρ, w, er, s, ?_⟩
  unfold sSeq M.bind at p
  cases e : s1 ρ st with
  | ok a st' =>
    rw [e] at p
    obtain ⟨fl, ρ'⟩ := a
    intro σ' H' G' μ' w' er' s'
    cases fl with
    | nx => exact ⟨G', μ', st', ρ', w', er', s', p⟩
    | ret d => exact p σ' H' G' μ' w' er' s'
    | brk => exact p σ' H' G' μ' w' er' s'
    | ct => exact p σ' H' G' μ' w' er' s'
  | err x st' => rw [e] at p; exact p
  | bad => rw [e] at p; exact p
theorem jss_cons (h1 : JS X E Φ s1 st0) (h2 : JSs X E Φ s2 rest) : JSs X E Φ (sSeq s1 s2) (st0 :: rest) := PSs.imp (pss_cons h1 h2) fun _ _ _ h => seq_ok h
theorem jss_one (h1 : JS X E Φ s1 st0) : JSs X E Φ s1 [st0] := pss_one h1
/-- code that is never come to -/
def sBad : En → M (Fl × En) := fun _ => M.bad
theorem js_bad : JS X E Φ sBad st0 := PS.imp ps_never fun Dn σ H ⟨G, μ, st, ρ, w, er, s, p⟩ => p
theorem jss_bad : JSs X E Φ sBad rest := PSs.imp pss_never fun Dn σ H ⟨G, μ, st, ρ, w, er, s, p⟩ => p
def sPass : En → M (Fl × En) := fun ρ => M.pure (.nx, ρ)
theorem js_pass : JS X E Φ sPass (.Pass pos) := PS.imp ps_pass fun Dn σ H ⟨G, μ, st, ρ, w, er, s, p⟩ => p σ H G μ w er s
def sBrk : En → M (Fl × En) := fun ρ => M.pure (.brk, ρ)
theorem js_brk : JS X E Φ sBrk (.Break pos) := PS.imp ps_break fun Dn σ H ⟨G, μ, st, ρ, w, er, s, p⟩ => p σ H G μ w er s
def sCt : En → M (Fl × En) := fun ρ => M.pure (.ct, ρ)
theorem js_ct : JS X E Φ sCt (.Continue pos) := PS.imp ps_continue fun Dn σ H ⟨G, μ, st, ρ, w, er, s, p⟩ => p σ H G μ w er s
/-- a docstring -/
theorem js_doc {x : Str} {j : Nat} {p' : Pos} : JS X E Φ sPass (.Expr (.Constant (.str x) j p') pos) := PS.imp ps_doc fun Dn σ H ⟨G, μ, st, ρ, w, er, s, p⟩ => p σ H G μ w er s
/-- an expression whose value is dropped -/
def sExpr (f : En → M D) : En → M (Fl × En) := fun ρ => (f ρ).bind fun _ => M.pure (.nx, ρ)
theorem js_expr (he : JB X E Φ.H f e) (hs : swapsWith e none pos.line X.env = pure false := by rfl) : JS X E Φ (sExpr f) (.Expr e pos) := PS.imp (ps_expr he hs) fun Dn σ H ⟨G, μ, st, ρ, w, er, s, p⟩ =>
  ⟨G, μ, st, ρ, w, er, p.bind s fun a st' v H' G' μ' w' s' t' r q => q.nx w' (er.step s') t'⟩
def sRet (f : En → M D) : En → M (Fl × En) := fun ρ => (f ρ).bind fun d => M.pure (.ret d, ρ)
theorem js_ret (he : JE X E Φ.H f e) : JS X E Φ (sRet f) (.Return (some e) pos) := PS.imp (ps_ret he) fun Dn σ H ⟨G, μ, st, ρ, w, er, s, p⟩ =>
  ⟨G, μ, st, ρ, w, er, p.bind s fun a st' v H' G' μ' w' s' t' r q => q σ H' G' μ' w' (er.step s') t' v r⟩
theorem js_retN : JS X E Φ (sRet (eC .non)) (.Return none pos) := PS.imp ps_retN fun Dn σ H ⟨G, μ, st, ρ, w, er, s, p⟩ => p σ H G μ w er s .non .non
/-- i < length: the slot is there -/
def put (i : Nat) (x : Slot) (ρ : En) : M (Fl × En) := if i < ρ.length then M.pure (.nx, ρ.set i x) else M.bad
def sSet (i : Nat) (f : En → M D) : En → M (Fl × En) := fun ρ => (f ρ).bind fun d => put i (.val d) ρ
theorem put_val {i : Nat} {d : D} {v : V} {ρ : En} {σ : L2.St} {st : Sto} {H G : Hp} {μ : Mu} {Dn : Ends} (p : PostS X E Φ Dn (put i (.val d) ρ st)) (w : Wd X.w X.K H G μ st) (er : ER X.K H G μ Φ.H ρ σ) (s : Stp Φ.H Φ.G Φ.μ H G μ) (r : Rep X.K G μ v d) : Dn.nx (σ.set i (some v)) H := by
  unfold put at p
  by_cases h : i < ρ.length
  · rw [if_pos h] at p
    exact p.nx w (er.set h r) s
  · rw [if_neg h] at p
    exact p.elim
theorem js_set {i : Nat} {x : Str} {p' : Pos} (hN : X.N.Nodup) (hi : X.N[i]? = some x) (hx : Loc X.env.scope x) (he : JE X E Φ.H f e) (hs : swapsWith e (some (.Name x p')) pos.line X.env = pure false := by rfl) (hf : X.fn x = true ∨ X.env.scope.names.lookup x = some .local := by first | exact .inl rfl | exact .inr rfl | assumption) :
    JS X E Φ (sSet i f) (.Assign [.Name x p'] e pos) := PS.imp (ps_set hN hi hx he hs hf) fun Dn σ H ⟨G, μ, st, ρ, w, er, s, p⟩ =>
  ⟨G, μ, st, ρ, w, er, p.bind s fun a st' v H' G' μ' w' s' t' r q => put_val q w' (er.step s') t' r⟩
def sOwn (i : Nat) (f : En → M (List D)) : En → M (Fl × En) := fun ρ => (f ρ).bind fun ds => put i (.own ds) ρ
theorem put_own {i : Nat} {ds : List D} {v : V} {ρ : En} {σ : L2.St} {st : Sto} {H0 H G G0 : Hp} {μ μ0 : Mu} {Dn : Ends} (p : PostS X E Φ Dn (put i (.own ds) ρ st)) (w : Wd X.w X.K H G μ st) (er0 : ER X.K H0 G0 μ0 Φ.H ρ σ) (s : Stp H0 G0 μ0 H G μ) (s0 : Stp Φ.H Φ.G Φ.μ H0 G0 μ0)
    (r : Fresh X.K H0 H G μ v ds) : Dn.nx (σ.set i (some v)) H := by
  unfold put at p
  obtain ⟨a, vs, rfl, h1, h2, h3, h4, h5⟩ := r
  by_cases h : i < ρ.length
  · rw [if_pos h] at p
    refine p.nx w ((er0.step s).setOwn h h1 h2 h3 h4 (none_before s0.th h5) fun j es q z => ?_) (s0.trans s)
    obtain ⟨b, ws, z1, z2, _⟩ := er0.own j es q
    rw [z] at z1; cases z1
    rw [h5] at z2; cases z2
  · rw [if_neg h] at p
    exact p.elim
theorem js_own {i : Nat} {x : Str} {p' : Pos} (hN : X.N.Nodup) (hi : X.N[i]? = some x) (hx : Loc X.env.scope x) (he : JF X E Φ.H fl e) (hs : swapsWith e (some (.Name x p')) pos.line X.env = pure false := by rfl) (hf : X.fn x = true ∨ X.env.scope.names.lookup x = some .local := by first | exact .inl rfl | exact .inr rfl | assumption) :
    JS X E Φ (sOwn i fl) (.Assign [.Name x p'] e pos) := PS.imp (ps_set hN hi hx he hs hf) fun Dn σ H ⟨G, μ, st, ρ, w, er, s, p⟩ =>
  ⟨G, μ, st, ρ, w, er, p.bind s fun a st' v H' G' μ' w' s' t' r q => put_own q w' er s' s r⟩
/-- slot i gives its list out, ahead of a statement -/
def frz1 (i : Nat) (ρ : En) : En := match ρ[i]? with
  | some (.own ds) => ρ.set i (.val (.lst ds))
  | _ => ρ
def sFrz (i : Nat) (f : En → M (Fl × En)) : En → M (Fl × En) := fun ρ => f (frz1 i ρ)
theorem frz_ok {i : Nat} {Dn : Ends} {σ : L2.St} {H : Hp} (h : SeS X E Φ (sFrz i s1) Dn σ H) : SeS X E Φ s1 Dn σ H := by
  obtain ⟨G, μ, st, ρ, w, er, s, p⟩ := h
  unfold sFrz frz1 at p
  cases q : ρ[i]? with
  | none => rw [q] at p; exact ⟨G, μ, st, ρ, w, er, s, p⟩
  | some x =>
    rw [q] at p
    cases x with
    | no => exact ⟨G, μ, st, ρ, w, er, s, p⟩
    | val d => exact ⟨G, μ, st, ρ, w, er, s, p⟩
    | own ds =>
      obtain ⟨a, vs, h1, h2, h3, h4, h5, h6⟩ := er.own i ds q
      exact ⟨upd G a (.lst vs), μ, st, _, w.freeze h2 h4 h5, er.freeze q h1 h2 h3 h4, s.freeze h4 h6, p⟩
theorem js_frz {i : Nat} (h : JS X E Φ s1 st0) : JS X E Φ (sFrz i s1) st0 := PS.imp h fun _ _ _ x => frz_ok x
theorem jss_frz {i : Nat} (h : JSs X E Φ s1 rest) : JSs X E Φ (sFrz i s1) rest := PSs.imp h fun _ _ _ x => frz_ok x
def sIf (t : En → M Bool) (f g : En → M (Fl × En)) : En → M (Fl × En) := fun ρ => (t ρ).bind fun b => if b = true then f ρ else g ρ
theorem js_if {c : Expr} {as bs : List Stmt} (hc : JT X E Φ.H t c) (ha : JSs X E Φ s1 as) (hb : JSs X E Φ s2 bs) : JS X E Φ (sIf t s1 s2) (.If c as bs pos) := PS.imp (ps_if hc ha hb) fun Dn σ H ⟨G, μ, st, ρ, w, er, s, p⟩ =>
  ⟨G, μ, st, ρ, w, er, p.bind s fun a st' v H' G' μ' w' s' t' r q => by
    cases r
    cases a with
    | true => exact ⟨G', μ', st', ρ, w', er.step s', t', q⟩
    | false => exact ⟨G', μ', st', ρ, w', er.step s', t', q⟩⟩
end
end
end PL

set_option linter.all false
set_option maxRecDepth 100000
set_option maxHeartbeats 4000000
/-! PL4: calls of own defs, a def by its body, targets, what is walked, for, list comprehensions, append and extend. -/
namespace PL
open PySem PySem.Spec L2
variable {wW : World}

/-! ### a def's promise: it does sem -/
def SpOf (wW : World) (K : PySem.W.Frag) (mg : Str → Option Value) (n : Nat) (sem : List D → M D) : Sp := fun vs H Q E =>
  ∃ G μ st ds, Wd wW K H G μ st ∧ RepL K G μ vs ds ∧ ds.length = n ∧ Post wW K mg E (rRep K) H G μ (sem ds st) Q
/-- no exception -/
def xNo : XK := fun _ _ _ => False
section
variable {X : Cx} {E : XK} {H0 : Hp} {e a b : Expr} {f g : En → M D} {es : List Expr} {ga : En → M (List D)} {pos p : Pos} {x : Str}
def eCall (n : Nat) (sem : List D → M D) (g : En → M (List D)) : En → M D := fun ρ => (g ρ).bind fun ds => if ds.length = n then sem ds else M.bad
theorem se_call {n : Nat} {sem : List D → M D} : ∀ σ H Q, Se X E H0 (rRep X.K) (eCall n sem ga) σ H Q → tCall (SpOf X.w X.K X.mg n sem) [] E (Se X E H0 (rRepL X.K) ga) σ H Q := by
  intro σ H Q ⟨G, μ, st, ρ, w, er, q⟩
  refine ⟨G, μ, st, ρ, w, er, Post.bind q fun ds st1 vs H1 G1 μ1 w1 s1 r1 q1 => ?_⟩
  by_cases h : ds.length = n
  · rw [if_pos h] at q1
    exact ⟨G1, μ1, st1, ds, w1, by rw [List.append_nil]; exact r1, h, q1⟩
  · rw [if_neg h] at q1
    exact q1.elim
theorem je_call {k n : Nat} {fa : Addr} {fd : FuncData} {ps : List Str} {sem : List D → M D} (F : FnOk X.prog X.w X.K X.mg X.base (L2.CX X.prog X.w) k fa fd ps (SpOf X.w X.K X.mg n sem)) (hr : Room k X.A) (hg : Gl X x) (hm : X.mg x = some (.ref fa)) (hk : PySem.W.keepIn X.K (.ref fa) = true) (hb : Binds X.K fd ps [])
    (hx : Passes (L2.CX X.prog X.w) X E) (ha : JA X E H0 ga (e :: es)) (hdb : (x == ("__debug__" : Str)) = false := by decide) (he : starEach (e :: es) X.env = (false, eval e X.env) :: starEach es X.env := by rfl) (hpl : (backTo pos (starEach es X.env)).any (·.1) = false := by rfl) :
    JE X E H0 (eCall n sem ga) (.Call (.Name x p) (e :: es) [] pos) := PE.imp (pe_call F hr hg hm hk hb .nil hx ha hdb he hpl) se_call
theorem je_call0 {k n : Nat} {fa : Addr} {fd : FuncData} {ps : List Str} {sem : List D → M D} (F : FnOk X.prog X.w X.K X.mg X.base (L2.CX X.prog X.w) k fa fd ps (SpOf X.w X.K X.mg n sem)) (hr : Room k X.A) (hg : Gl X x) (hm : X.mg x = some (.ref fa)) (hk : PySem.W.keepIn X.K (.ref fa) = true) (hb : Binds X.K fd ps [])
    (hx : Passes (L2.CX X.prog X.w) X E) (hdb : (x == ("__debug__" : Str)) = false := by decide) :
    JE X E H0 (eCall n sem aNil) (.Call (.Name x p) [] [] pos) := PE.imp (pe_call0 F hr hg hm hk hb .nil hx hdb) fun σ H Q h => by
  obtain ⟨G, μ, st, ρ, w, er, q⟩ := h
  have q' : Post X.w X.K X.mg E (rRep X.K) H G μ ((if ([] : List D).length = n then sem [] else M.bad) st) Q := q
  by_cases h : ([] : List D).length = n
  · rw [if_pos h] at q'
    exact ⟨G, μ, st, [], w, .nil, h, q'⟩
  · rw [if_neg h] at q'
    exact q'.elim
end

/-! ### a def by its body -/
section
variable {P : Program} {w : World} {K : PySem.W.Frag} {mg : Str → Option Value} {base : Heap}
/-- what a body does, run as a call -/
def runB (m : Nat) (f : En → M (Fl × En)) : List D → M D := fun ds => (f (ds.map Slot.val ++ List.replicate (m - ds.length) Slot.no)).bind fun r => match r.1 with
  | .ret d => M.pure d
  | .nx => M.pure .non
  | _ => M.bad
theorem er_start {N : List Str} {H G : Hp} {μ : Mu} {vs : List V} {ds : List D} (r : RepL K G μ vs ds) : ER K H G μ H (ds.map Slot.val ++ List.replicate (N.length - ds.length) Slot.no) (L2.start N vs) where
  val := fun i d q => by
    have hl := RepL.length r
    by_cases h : i < ds.length
    · rw [List.getElem?_append_left (by simpa using h), List.getElem?_map] at q
      cases e : ds[i]? with
      | none => rw [e] at q; cases q
      | some d' =>
        rw [e] at q; cases q
        obtain ⟨v, h1, h2⟩ := r.get e
        refine ⟨v, ?_, h2⟩
        unfold L2.start
        rw [List.getElem?_append_left (by simp [hl, h]), List.getElem?_map, h1]; rfl
    · rw [List.getElem?_append_right (by simpa using h), List.getElem?_replicate] at q
      split at q <;> cases q
  own := fun i d q => by
    by_cases h : i < ds.length
    · rw [List.getElem?_append_left (by simpa using h), List.getElem?_map] at q
      cases e : ds[i]? with
      | none => rw [e] at q; cases q
      | some d' => rw [e] at q; cases q
    · rw [List.getElem?_append_right (by simpa using h), List.getElem?_replicate] at q
      split at q <;> cases q
  inj := fun i j d e a q _ _ _ => by
    by_cases h : i < ds.length
    · rw [List.getElem?_append_left (by simpa using h), List.getElem?_map] at q
      cases e : ds[i]? with
      | none => rw [e] at q; cases q
      | some d' => rw [e] at q; cases q
    · rw [List.getElem?_append_right (by simpa using h), List.getElem?_replicate] at q
      split at q <;> cases q
  len := by unfold L2.start; simp [RepL.length r]
  old := fun _ o h => ⟨o, h⟩
/-- what a def's body may suppose of where it runs -/
structure BCx (P : Program) (w : World) (K : PySem.W.Frag) (mg : Str → Option Value) (base : Heap) (N : List Str) (scope : Scope) (k : Nat) (X : Cx) (E : XK) : Prop where
  prog : X.prog = P
  w : X.w = w
  K : X.K = K
  mg : X.mg = mg
  base : X.base = base
  N : X.N = N
  sc : X.env.scope = scope
  room : Room k X.A
  takes : Takes X fun cls d _ H => E cls d H
  calm : X.calm = true
  own : PassesOwn (model X.prog X.w) X.A X.env X.xe
  fn : X.fn = fun _ => true
theorem def_ok {x qual : Str} {st : Stmt} {fa : Addr} {fd : FuncData} {N ps : List Str} {k : Nat} {f : En → M (Fl × En)} (F : Fun K x qual st fa fd) (S : FnScope N ps (defScope st))
    (body : ∀ (cdv : Value) (A : Around) (outer : List Env) (s : Shared) (H G : Hp) (μ : Mu) (E : XK), Room k (A.deeper (PyProof.Rows.envOfC qual (defScope st) s.heap.objs.size fa cdv)) →
      JSs (cxOf (L2.CX P w) P w K mg base N qual (defScope st) fa cdv A outer s H E) E ⟨H, G, μ⟩ f (defBody st)) :
    FnOk P w K mg base (L2.CX P w) (k + 1) fa fd ps (SpOf w K mg ps.length (runB N.length f)) := by
  refine F.okX S (fun vs H Q E h => ?_) (fun cdv A outer s H vs Q E hr h => ?_)
  · obtain ⟨G, μ, st, ds, _, r, l, _⟩ := h
    rw [RepL.length r, l]
  · obtain ⟨G, μ, st0, ds, wd, r, l, q⟩ := h
    refine ⟨_, body cdv A outer s H G μ E hr, G, μ, st0, _, wd, er_start (N := N) r, .refl, ?_⟩
    unfold runB M.bind at q
    have hN : N.length - ds.length = N.length - ds.length := rfl
    cases e : f (ds.map Slot.val ++ List.replicate (N.length - ds.length) Slot.no) st0 with
    | ok a st' =>
      rw [e] at q
      obtain ⟨fl, ρ'⟩ := a
      intro σ' H' G' μ' w' er' s'
      cases fl with
      | nx => exact q .non H' G' μ' w' s' .non
      | ret d => exact fun v rv => q v H' G' μ' w' s' rv
      | brk => exact q.elim
      | ct => exact q.elim
    | err x st' =>
      rw [e] at q
      exact q
    | bad => rw [e] at q; exact q
/-- .. the same promise by another name of what it does -/
theorem FnOk.sem {k : Nat} {fa : Addr} {fd : FuncData} {ps : List Str} {n : Nat} {s1 s2 : List D → M D} (F : FnOk P w K mg base (L2.CX P w) k fa fd ps (SpOf w K mg n s1)) (h : ∀ ds, ds.length = n → s1 ds = s2 ds) : FnOk P w K mg base (L2.CX P w) k fa fd ps (SpOf w K mg n s2) :=
  F.imp fun vs H Q E ⟨G, μ, st, ds, wd, r, l, q⟩ => ⟨G, μ, st, ds, wd, r, l, by rw [h ds l]; exact q⟩
end
end PL

set_option linter.all false
set_option maxRecDepth 100000
set_option maxHeartbeats 4000000
/-! PL5: targets, what is walked, for, list comprehensions. -/
namespace PL
open PySem PySem.Spec L2
variable {wW : World}

/-! ### targets: a name, or a flat tuple of names -/
inductive Pt where
  | nm (i : Nat) | tp (is : List Nat)
def Pt.slots : Pt → List Nat
  | .nm i => [i]
  | .tp is => is
def setAll : List Nat → List D → En → Option En
  | [], [], ρ => some ρ
  | i :: is, d :: ds, ρ => if i < ρ.length then setAll is ds (ρ.set i (.val d)) else none
  | _, _, _ => none
/-- the items of a sequence that stands still -/
def seqD : D → Option (List D)
  | .tup ds => some ds
  | .lst ds => some ds
  | .frz ds => some ds
  | _ => none
def Pt.set : Pt → D → En → Option En
  | .nm i, d, ρ => if i < ρ.length then some (ρ.set i (.val d)) else none
  | .tp is, .tup ds, ρ => setAll is ds ρ
  | _, _, _ => none
def gNames : List Nat → TGs
  | [] => gNil
  | i :: is => gCons (gName i) (gNames is)
def Pt.g (K : PySem.W.Frag) : Pt → TG
  | .nm i => gName i
  | .tp is => gTup K is.length (gNames is)
section
variable {X : Cx} {E : XK} {H0 H G : Hp} {μ : Mu} {ρ ρ' : En} {σ : L2.St} {st : Sto}
theorem setAll_ok {Q : L2.St → Hp → Prop} : ∀ {is : List Nat} {ds : List D} {vs : List V} {ρ ρ' : En} {σ : L2.St}, setAll is ds ρ = some ρ' → RepL X.K G μ vs ds → ER X.K H G μ H0 ρ σ →
    (∀ σ', ER X.K H G μ H0 ρ' σ' → (∀ ws, (∀ i ∈ is, i ∈ ws) → wipe σ' ws = wipe σ ws) → Q σ' H) → gNames is vs σ H Q
  | [], [], _, ρ, ρ', σ, h, .nil, er, q => by
    unfold setAll at h; cases h
    exact ⟨rfl, q σ er fun _ _ => rfl⟩
  | i :: is, d :: ds, _, ρ, ρ', σ, h, .cons (v := v) (vs := vs) rv rr, er, q => by
    unfold setAll at h
    by_cases hi : i < ρ.length
    · rw [if_pos hi] at h
      refine ⟨v, vs, rfl, setAll_ok h rr (er.set hi rv) fun σ' e' w' => q σ' e' fun ws hm => ?_⟩
      rw [w' ws fun j hj => hm j (List.mem_cons_of_mem _ hj)]
      exact wipe_set (hm i List.mem_cons_self)
    · rw [if_neg hi] at h; cases h
  | [], _ :: _, _, _, _, _, h, _, _, _ => by unfold setAll at h; cases h
  | _ :: _, [], _, _, _, _, h, _, _, _ => by unfold setAll at h; cases h
where
  wipe_set {σ : L2.St} {i : Nat} {x : Option V} : ∀ {ws : List Nat}, i ∈ ws → wipe (σ.set i x) ws = wipe σ ws
    | w :: ws, h => by
      unfold wipe
      by_cases hw : i ∈ ws
      · rw [wipe_set hw]
      · have e : i = w := by
          rcases List.mem_cons.mp h with e | e
          · exact e
          · exact absurd e hw
        subst e
        have : ∀ {vs : List Nat} {τ : L2.St}, i ∉ vs → wipe (τ.set i x) vs = (wipe τ vs).set i x := by
          intro vs
          induction vs with
          | nil => intro τ _; rfl
          | cons v vs ih =>
            intro τ hv
            unfold wipe
            rw [ih fun z => hv (List.mem_cons_of_mem _ z)]
            exact List.set_comm _ _ fun z => hv (z ▸ List.mem_cons_self)
        rw [this hw, List.set_set]
theorem Pt.ok {Q : L2.St → Hp → Prop} {p : Pt} {d : D} {v : V} (h : p.set d ρ = some ρ') (w : Wd X.w X.K H G μ st) (r : Rep X.K G μ v d) (er : ER X.K H G μ H0 ρ σ)
    (q : ∀ σ', ER X.K H G μ H0 ρ' σ' → (∀ ws, (∀ i ∈ p.slots, i ∈ ws) → wipe σ' ws = wipe σ ws) → Q σ' H) : p.g X.K v σ H Q := by
  cases p with
  | nm i =>
    have h' : (if i < ρ.length then some (ρ.set i (.val d)) else none) = some ρ' := by cases d <;> exact h
    by_cases hi : i < ρ.length
    · rw [if_pos hi] at h'
      cases h'
      exact q _ (er.set hi r) fun ws hm => setAll_ok.wipe_set (hm i (List.mem_singleton.mpr rfl))
    · rw [if_neg hi] at h'; cases h'
  | tp is =>
    cases r with
    | @tup a vs ds hs rr =>
      have h' : setAll is ds ρ = some ρ' := h
      have hl : ∀ {is : List Nat} {ds : List D} {ρ ρ' : En}, setAll is ds ρ = some ρ' → ds.length = is.length := by
        intro is
        induction is with
        | nil => intro ds ρ ρ' h; cases ds with
          | nil => rfl
          | cons _ _ => unfold setAll at h; cases h
        | cons i is ih => intro ds ρ ρ' h; cases ds with
          | nil => unfold setAll at h; cases h
          | cons d ds =>
            unfold setAll at h
            split at h
            · exact congrArg (· + 1) (ih h)
            · cases h
      exact ⟨a, vs, rfl, w.imm.sqT hs, by rw [RepL.length rr, hl h'], setAll_ok h' rr er q⟩
    | _ => cases h
end

/-! ### what is walked -/
/-- from (G, μ) on the iterator gives ds, one by one -/
def ItR (wW : World) (K : PySem.W.Frag) (G : Hp) (μ : Mu) (J : It) (ds : List D) : Prop :=
  ds.length ≤ sizeLine ∧ ∀ H1 G1 μ1 st1, Wd wW K H1 G1 μ1 st1 → Sub G G1 → SubM μ μ1 →
    (∀ i, i < ds.length → J.go i H1 ∧ ∀ x H2, J.yld i H1 x H2 → ∃ G2, Wd wW K H2 G2 μ1 st1 ∧ Stp H1 G1 μ1 H2 G2 μ1 ∧ ∃ d, ds[i]? = some d ∧ Rep K G2 μ1 x d) ∧ ∀ i, ds.length ≤ i → J.stop i H1
def rIt (wW : World) (K : PySem.W.Frag) : RR It (List D) := ⟨fun _ _ G μ J ds => ItR wW K G μ J ds, fun _ h => h⟩
def JI (X : Cx) (E : XK) (H0 : Hp) (tg : Expr) (f : En → M (List D)) (iter : Expr) : Prop := PI X tg iter (Se X E H0 (rIt X.w X.K) f)
def opt {α : Type} (o : Option α) : M α := match o with
  | some a => M.pure a
  | none => M.bad
section
variable {X : Cx} {E : XK} {H0 : Hp} {e a b tg iter : Expr} {f g : En → M D} {es : List Expr} {pos p : Pos} {x : Str}
theorem PI.imp {t t' : TI} (h : PI X tg iter t) (q : ∀ σ H R, t' σ H R → t σ H R) : PI X tg iter t' := ⟨fun pins s σ H R I x => h.run pins s σ H R I (q _ _ _ x)⟩
theorem Post.opt {α β γ : Type} {R : RR β α} {H G : Hp} {μ : Mu} {o : Option γ} {k : γ → M α} {st : Sto} {Q : β → Hp → Prop} {K : PySem.W.Frag} {mg : Str → Option Value} (p : Post wW K mg E R H G μ ((opt o).bind k st) Q) : ∃ c, o = some c ∧ Post wW K mg E R H G μ (k c st) Q := by
  cases o with
  | none => exact p.elim
  | some c => exact ⟨c, rfl, p⟩
def charD (c : Nat) : D := .str ⟨#[c]⟩
/-- what is walked of a list or a tuple that stands still, of a text -/
def itD : D → Option (List D)
  | .str s => if s.length ≤ sizeLine then some (s.cps.toList.map charD) else none
  | d => seqD d
def iSeq (f : En → M D) : En → M (List D) := fun ρ => (f ρ).bind fun d => opt (itD d)
theorem its_ok {K : PySem.W.Frag} {G : Hp} {μ : Mu} {s : Str} (hz : s.length ≤ sizeLine) : ItR wW K G μ (Its s) (s.cps.toList.map charD) := by
  refine ⟨by rw [List.length_map, Array.length_toList]; exact hz, fun H1 G1 μ1 st1 w sg sm => ⟨fun i hi => ?_, fun i hi => ?_⟩⟩
  · have hi' : i < s.cps.size := by simpa using hi
    refine ⟨hi', fun x H2 ⟨e, c, hc, ex⟩ => ?_⟩
    subst e ex
    refine ⟨G1, w, .refl, charD c, ?_, .str _⟩
    rw [List.getElem?_map, Array.getElem?_toList, hc]
    rfl
  · show s.cps.size ≤ i
    simpa using hi
theorem itl_ok {K : PySem.W.Frag} {G : Hp} {μ : Mu} {a : Addr} {vs : List V} {ds : List D} (hl : SqL K G a vs) (r : RepL K G μ vs ds) (hz : vs.length ≤ sizeLine) : ItR wW K G μ (Itl K a) ds := by
  refine ⟨by rw [← RepL.length r]; exact hz, fun H1 G1 μ1 st1 w sg sm => ⟨fun i hi => ?_, fun i hi => ?_⟩⟩
  · have h1 : SqL K H1 a vs := (sg.trans w.imm).sqL hl
    obtain ⟨v, hv, rv⟩ := r.get (List.getElem?_eq_getElem hi)
    refine ⟨⟨vs, v, h1, hv⟩, fun x H2 ⟨e, hy⟩ => ?_⟩
    subst e
    have ex : x = v := Option.some.inj ((hy vs h1).symm.trans hv)
    subst ex
    exact ⟨G1, w, .refl, _, List.getElem?_eq_getElem hi, rv.mono sg sm⟩
  · exact ⟨vs, (sg.trans w.imm).sqL hl, by rw [RepL.length r]; exact hi⟩
theorem itt_ok {K : PySem.W.Frag} {G : Hp} {μ : Mu} {a : Addr} {vs : List V} {ds : List D} (hl : SqT K G a vs) (r : RepL K G μ vs ds) (hz : vs.length ≤ sizeLine) : ItR wW K G μ (Itt K a) ds := by
  refine ⟨by rw [← RepL.length r]; exact hz, fun H1 G1 μ1 st1 w sg sm => ⟨fun i hi => ?_, fun i hi => ?_⟩⟩
  · have h1 : SqT K H1 a vs := (sg.trans w.imm).sqT hl
    obtain ⟨v, hv, rv⟩ := r.get (List.getElem?_eq_getElem hi)
    refine ⟨⟨vs, v, h1, hv⟩, fun x H2 ⟨e, hy⟩ => ?_⟩
    subst e
    have ex : x = v := Option.some.inj ((hy vs h1).symm.trans hv)
    subst ex
    exact ⟨G1, w, .refl, _, List.getElem?_eq_getElem hi, rv.mono sg sm⟩
  · exact ⟨vs, (sg.trans w.imm).sqT hl, by rw [RepL.length r]; exact hi⟩
theorem ji_seq (he : JE X E H0 f iter) : JI X E H0 tg (iSeq f) iter := by
  refine ⟨fun pins s σ H R I ⟨G, μ, st, ρ, w, er, q⟩ => ?_⟩
  refine thn (he.run pins s σ H (fun x H1 => ∃ G1 μ1 st1 ds d, Wd X.w X.K H1 G1 μ1 st1 ∧ Rep X.K G1 μ1 x d ∧ itD d = some ds ∧ ∀ J, ItR X.w X.K G1 μ1 J ds → R J H1) I ⟨G, μ, st, ρ, w, er, Post.raw q fun d st1 v H1 G1 μ1 w1 s1 r1 q1 => ?_⟩) fun v s1 ⟨x, H1, I1, rx, G1, μ1, st1, ds, d, w1, r1, hd, q1⟩ => ?_
  · cases e : itD d with
    | none => rw [e] at q1; exact q1.elim
    | some ds =>
      rw [e] at q1
      exact ⟨G1, μ1, st1, ds, d, w1, r1, e, fun J hj => q1 J H1 G1 μ1 w1 s1 hj⟩
  · have goL : ∀ {a : Addr} {vs : List V}, x = .ref a → SqL X.K G1 a vs → RepL X.K G1 μ1 vs ds → wpAny (model X.prog X.w) X.A (pyIter v) (PIE X pins σ tg R) X.xe s1 := fun {a vs} e h r => by
      subst e
      cases rx
      have hq : SqL X.K H1 a vs := w1.imm.sqL h
      obtain ⟨its, rv, pl, hz⟩ := I1.list hq
      refine wpAny_pyIter_list pl.isList ?_
      refine ⟨s1.heap.objs.size, [s1.heap.objs.size], _, _, H1, rfl, I1.kept (t' := s1.toks) fun b o e => Heap.get?_push_of_some _ e, turn_list a _, ⟨_, Heap.get?_push_size _ rfl, rfl, rfl⟩, fun b hb => ?_, q1 _ (itl_ok h r hz)⟩
      have e : b = s1.heap.objs.size := by simpa using hb
      subst e
      exact I1.fpOk (Nat.le_refl _) (I1.hok.fresh (Nat.le_refl _))
    have goT : ∀ {a : Addr} {vs : List V}, x = .ref a → SqT X.K G1 a vs → RepL X.K G1 μ1 vs ds → wpAny (model X.prog X.w) X.A (pyIter v) (PIE X pins σ tg R) X.xe s1 := fun {a vs} e h r => by
      subst e
      cases rx
      have hq : SqT X.K H1 a vs := w1.imm.sqT h
      obtain ⟨its, rv, pl, hz⟩ := I1.tuple hq
      refine wpAny_pyIter_tuple (show s1.heap.IsTuple a its.toArray from pl) ?_
      refine ⟨s1.heap.objs.size, [s1.heap.objs.size], _, _, H1, rfl, I1.kept (t' := s1.toks) fun b o e => Heap.get?_push_of_some _ e, turn_tuple a _, ⟨_, Heap.get?_push_size _ rfl, rfl, rfl⟩, fun b hb => ?_, q1 _ (itt_ok h r hz)⟩
      have e : b = s1.heap.objs.size := by simpa using hb
      subst e
      exact I1.fpOk (Nat.le_refl _) (I1.hok.fresh (Nat.le_refl _))
    cases r1 with
    | tup h r => cases hd; exact goT rfl h r
    | lst h r => cases hd; exact goL rfl (.inl (.inl h)) r
    | frz h r => cases hd; exact goL rfl h r
    | str z =>
      have hd' : (if z.length ≤ sizeLine then some (z.cps.toList.map charD) else none) = some ds := hd
      by_cases hz : z.length ≤ sizeLine
      · rw [if_pos hz] at hd'
        cases hd'
        obtain ⟨tk, rfl⟩ := rx
        have q2 := q1 (Its z) (its_ok hz)
        cases ha : z.cps.all (· < 128) with
        | false =>
          have T := turn_str (P := X.prog) (w := X.w) (K := X.K) (tg := tg) s1.heap.objs.size z tk "str_iterator" (.inr rfl)
          exact wpAny_pyIter_wide ha (pi_one (tk := s1.toks) I1 _ T ⟨_, Heap.get?_push_size _ rfl, rfl, rfl⟩ q2)
        | true =>
          have T := turn_str (P := X.prog) (w := X.w) (K := X.K) (tg := tg) s1.heap.objs.size z tk "str_ascii_iterator" (.inl rfl)
          exact wpAny_pyIter_ascii ha (pi_one (tk := s1.toks) I1 _ T ⟨_, Heap.get?_push_size _ rfl, rfl, rfl⟩ q2)
      · rw [if_neg hz] at hd'; cases hd'
    | _ => cases hd
/-- range(n), range(a, b) -/
def rangeL (lo hi : Int) : M (List D) := fun s => if -(2 ^ 62) ≤ lo ∧ lo < 2 ^ 62 ∧ -(2 ^ 62) ≤ hi ∧ hi < 2 ^ 62 ∧ (hi - lo).toNat ≤ sizeLine then .ok ((List.range (hi - lo).toNat).map fun (i : Nat) => D.int (lo + (i : Int))) s else .bad
def iRange1 (g : En → M (List D)) : En → M (List D) := fun ρ => (g ρ).bind fun ds => match ds with
  | [.int n] => rangeL 0 n
  | _ => M.bad
def iRange2 (g : En → M (List D)) : En → M (List D) := fun ρ => (g ρ).bind fun ds => match ds with
  | [.int a, .int b] => rangeL a b
  | _ => M.bad
theorem itr_ok {K : PySem.W.Frag} {G : Hp} {μ : Mu} {lo : Int} {n : Nat} (hz : n ≤ sizeLine) : ItR wW K G μ (Itr lo n) ((List.range n).map fun (i : Nat) => D.int (lo + (i : Int))) := by
  refine ⟨by simpa using hz, fun H1 G1 μ1 st1 w sg sm => ⟨fun i hi => ?_, fun i hi => ?_⟩⟩
  · have hi' : i < n := by simpa using hi
    refine ⟨hi', fun x H2 ⟨e, ex⟩ => ?_⟩
    subst e ex
    exact ⟨G1, w, .refl, .int (lo + i), by simp [hi'], .int _⟩
  · show n ≤ i
    simpa using hi
theorem Post.range {β : Type} {R : RR β (List D)} {K : PySem.W.Frag} {mg : Str → Option Value} {H G : Hp} {μ : Mu} {lo hi : Int} {st : Sto} {Q : β → Hp → Prop} (p : Post wW K mg E R H G μ (rangeL lo hi st) Q) :
    (-(2 ^ 62) ≤ lo ∧ lo < 2 ^ 62 ∧ -(2 ^ 62) ≤ hi ∧ hi < 2 ^ 62) ∧ (hi - lo).toNat ≤ sizeLine ∧ Post wW K mg E R H G μ (.ok ((List.range (hi - lo).toNat).map fun (i : Nat) => D.int (lo + (i : Int))) st) Q := by
  unfold rangeL at p
  split at p
  · rename_i h
    exact ⟨⟨h.1, h.2.1, h.2.2.1, h.2.2.2.1⟩, h.2.2.2.2, p⟩
  · exact p.elim
theorem ji_range1 {ga : En → M (List D)} (hg : Gl X "range") (hm : X.mg "range" = none) (ha : JA X E H0 ga [a]) (hs : starEach [a] X.env = [(false, eval a X.env)] := by rfl) : JI X E H0 tg (iRange1 ga) (.Call (.Name "range" p) [a] [] pos) := by
  refine PI.imp (pi_range1 hg hm ha hs) fun σ H R ⟨G, μ, st, ρ, w, er, q⟩ => ?_
  refine ⟨G, μ, st, ρ, w, er, Post.raw q fun ds st1 vs H1 G1 μ1 w1 s1 r1 q1 => ?_⟩
  cases r1 with
  | nil => exact q1.elim
  | cons h t =>
    cases t with
    | cons _ _ => cases h <;> exact q1.elim
    | nil =>
      cases h with
      | int n =>
        obtain ⟨⟨_, _, h1, h2⟩, hz, q2⟩ := Post.range q1
        refine ⟨n, rfl, h1, h2, ?_⟩
        rw [Int.sub_zero] at hz q2
        exact q2 _ _ _ _ w1 s1 (itr_ok hz)
      | _ => exact q1.elim
theorem ji_range2 {ga : En → M (List D)} (hg : Gl X "range") (hm : X.mg "range" = none) (ha : JA X E H0 ga [a, b]) (hs : starEach [a, b] X.env = [(false, eval a X.env), (false, eval b X.env)] := by rfl) (hs2 : starEach [b] X.env = [(false, eval b X.env)] := by rfl) : JI X E H0 tg (iRange2 ga) (.Call (.Name "range" p) [a, b] [] pos) := by
  refine PI.imp (pi_range2 hg hm ha hs hs2) fun σ H R ⟨G, μ, st, ρ, w, er, q⟩ => ?_
  refine ⟨G, μ, st, ρ, w, er, Post.raw q fun ds st1 vs H1 G1 μ1 w1 s1 r1 q1 => ?_⟩
  cases r1 with
  | nil => exact q1.elim
  | cons h t =>
    cases t with
    | nil => cases h <;> exact q1.elim
    | cons h2 t =>
      cases t with
      | cons _ _ => cases h <;> cases h2 <;> exact q1.elim
      | nil =>
        cases h with
        | int lo =>
          cases h2 with
          | int hi =>
            obtain ⟨hb, hz, q2⟩ := Post.range q1
            exact ⟨lo, hi, rfl, hb, q2 _ _ _ _ w1 s1 (itr_ok hz)⟩
          | _ => exact q1.elim
        | _ => cases h2 <;> exact q1.elim

/-! ### for -/
def forL (bd : D → En → M (Fl × En)) : List D → En → M (Fl × En)
  | [], ρ => M.pure (.nx, ρ)
  | d :: ds, ρ => (bd d ρ).bind fun r => match r.1 with
    | .nx => forL bd ds r.2
    | .ct => forL bd ds r.2
    | .brk => M.pure (.nx, r.2)
    | .ret x => M.pure (.ret x, r.2)
def sFor (it : En → M (List D)) (p : Pt) (bd : En → M (Fl × En)) : En → M (Fl × En) := fun ρ => (it ρ).bind fun ds => forL (fun d ρ => (opt (p.set d ρ)).bind bd) ds ρ
section
variable {Φ : Ent} {it : En → M (List D)} {pt : Pt} {bd : En → M (Fl × En)} {body : List Stmt}
theorem PostS.opt {γ : Type} {o : Option γ} {k : γ → M (Fl × En)} {st : Sto} {Dn : Ends} (p : PostS X E Φ Dn ((opt o).bind k st)) : ∃ c, o = some c ∧ PostS X E Φ Dn (k c st) := by
  cases o with
  | none => exact p.elim
  | some c => exact ⟨c, rfl, p⟩
theorem Stp.sub {H G H1 G1 H2 G2 : Hp} {μ μ1 μ2 : Mu} (s : Stp H G μ H1 G1 μ1) (t : Stp H G1 μ1 H2 G2 μ2) : Stp H G μ H2 G2 μ2 where
  g := s.g.trans t.g
  m := fun n a h => t.m n a (s.m n a h)
  fr := fun a o h n => t.fr a o h fun k e => by
    cases q : μ k with
    | some b => have := s.m k b q; rw [e] at this; cases this; exact n k q
    | none => have := s.nm k a q e; rw [h] at this; cases this
  th := t.th
  ng := fun a e n => by
    cases q : G1 a with
    | some o => exact s.ng a e (by rw [q]; simp)
    | none => exact t.ng a q n
  nm := fun k a e n => by
    cases q : μ1 k with
    | some b => have := t.m k b q; rw [n] at this; cases this; exact s.nm k a e q
    | none => exact t.nm k a q n
theorem Stp.here {H G H1 G1 : Hp} {μ μ1 : Mu} (s : Stp H G μ H1 G1 μ1) : Stp H G1 μ1 H1 G1 μ1 where
  g := fun _ _ h => h
  m := fun _ _ h => h
  fr := fun a o h n => s.fr a o h fun k e => n k (s.m k a e)
  th := s.th
  ng := fun _ e n => absurd e n
  nm := fun _ _ e n => by rw [e] at n; cases n
theorem js_for (hp : PassesOwn (model X.prog X.w) X.A X.env X.xe) (hc : X.calm = true) (hi : JI X E Φ.H tg it iter) (hg : PG X tg (pt.g X.K)) (hb : ∀ G μ, JSs X E ⟨Φ.H, G, μ⟩ bd body)
    (hs : ∀ x, foldedSetIterable iter X.env x = pure x := by intro _; rfl) : JS X E Φ (sFor it pt bd) (.For tg iter body [] pos) := by
  refine ⟨fun pins s0 σ H Dn I ⟨G, μ, st, ρ, w, er, s, q⟩ => ?_⟩
  refine (ps_for hp hc hi hg (PSs.imp (t := fun Dn σ H => ∃ G μ, SeS X E ⟨Φ.H, G, μ⟩ bd Dn σ H) (t' := fun Dn σ H => ∃ G μ, SeS X E ⟨Φ.H, G, μ⟩ bd Dn σ H) ⟨fun pins s σ H D I ⟨G, μ, h⟩ => (hb G μ).run pins s σ H D I h⟩ fun _ _ _ h => h) hs).run pins s0 σ H Dn I ?_
  refine ⟨G, μ, st, ρ, w, er, PostS.bind q s fun ds st1 J H1 G1 μ1 w1 s1 t1 r1 q1 => ?_⟩
  obtain ⟨hz, hJ⟩ := r1
  have tT := Stp.here t1
  let W : Nat → Nat → L2.St → Hp → Prop := fun i m σ H => m = ds.length - i ∧ i ≤ ds.length ∧ ∃ G μ st ρ, Wd X.w X.K H G μ st ∧ ER X.K H G μ Φ.H ρ σ ∧ Stp Φ.H G1 μ1 H G μ ∧ PostS X E Φ Dn (forL (fun d ρ => (PL.opt (pt.set d ρ)).bind bd) (ds.drop i) ρ st)
  refine ⟨W, ⟨ds.length, by simp, Nat.zero_le _, G1, μ1, st1, ρ, w1, er.step s1, tT, q1⟩, ?_⟩
  rintro i m σ H ⟨rfl, hi, G, μ, st, ρ, w, er, t, q⟩
  obtain ⟨hgo, hstop⟩ := hJ H G μ st w t.g t.m
  by_cases hlt : i < ds.length
  · obtain ⟨go, hy⟩ := hgo i hlt
    refine .inr ⟨go, W (i + 1) (ds.length - (i + 1)), fun σ' H' h => ⟨_, by omega, h⟩, fun x H2 hx => ?_⟩
    obtain ⟨G2, w2, s2, d, hd, rd⟩ := hy x H2 hx
    rw [List.drop_eq_getElem_cons hlt] at q
    have ed : ds[i] = d := Option.some.inj ((List.getElem?_eq_getElem hlt).symm.trans hd)
    rw [ed] at q
    unfold forL at q
    rw [M.bind_assoc] at q
    obtain ⟨ρ2, hset, q⟩ := PostS.opt q
    have t2 : Stp Φ.H G1 μ1 H2 G2 μ := t.trans s2
    refine Pt.ok hset w2 rd (er.step s2) fun σ2 er2 _ => ⟨G1, μ1, G2, μ, st, ρ2, w2, er2, t2, ?_⟩
    unfold M.bind at q
    cases e : bd ρ2 st with
    | bad => rw [e] at q; exact q.elim
    | err x st' =>
      rw [e] at q
      exact fun c dd H' G' μ' w' s' r' => q c dd H' G' μ' w' (t1.sub s') r'
    | ok a st' =>
      rw [e] at q
      obtain ⟨fl, ρ'⟩ := a
      intro σ' H' G' μ' w' er' s'
      cases fl with
      | nx => exact ⟨rfl, hlt, G', μ', st', ρ', w', er', s', q⟩
      | ct => exact ⟨rfl, hlt, G', μ', st', ρ', w', er', s', q⟩
      | brk => exact q σ' H' G' μ' w' er' (t1.sub s')
      | ret d => exact q σ' H' G' μ' w' er' (t1.sub s')
  · have e : i = ds.length := by omega
    subst e
    rw [List.drop_length] at q
    exact .inl ⟨hstop _ (Nat.le_refl _), q σ H G μ w er (t1.sub t)⟩
end
end
end PL

set_option linter.all false
set_option maxRecDepth 100000
set_option maxHeartbeats 4000000
/-! PL6: list comprehensions with one clause. -/
namespace PL
open PySem PySem.Spec L2
variable {wW : World}

/-- no exception may leave m -/
def noX {α : Type} (m : M α) : M α := fun s => match m s with
  | .err _ _ => .bad
  | r => r
theorem noX_bind {α β : Type} (m : M α) (f : α → M β) : noX (m.bind f) = (noX m).bind fun a => noX (f a) := by
  funext s
  show (match (M.bind m f) s with | .err _ _ => .bad | r => r) = (M.bind (noX m) fun a => noX (f a)) s
  unfold M.bind noX
  cases m s <;> rfl
theorem noX_pure {α : Type} (a : α) : noX (M.pure a) = M.pure a := rfl
theorem noX_opt {α : Type} (o : Option α) : noX (opt o) = opt o := by cases o <;> rfl
theorem noX_bad {α : Type} : noX (M.bad : M α) = M.bad := rfl
theorem noX_noX {α : Type} (m : M α) : noX (noX m) = noX m := by
  funext s; unfold noX; cases m s <;> rfl
def wipeE (ρ : En) : List Nat → En
  | [] => ρ
  | v :: vs => (wipeE ρ vs).set v .no
def lcL (set : D → En → Option En) (tt : En → M Bool) (te : En → M D) (ρ : En) : List D → M (List D)
  | [] => M.pure []
  | d :: ds => (opt (set d ρ)).bind fun ρ' => (tt ρ').bind fun b => if b = true then (te ρ').bind fun y => (lcL set tt te ρ ds).bind fun ys => M.pure (y :: ys) else lcL set tt te ρ ds
def eLc (it : En → M (List D)) (p : Pt) (vs : List Nat) (tt : En → M Bool) (te : En → M D) : En → M (List D) := fun ρ => (it ρ).bind fun ds => noX (lcL p.set tt te (wipeE ρ vs) ds)
def tTrue : En → M Bool := fun _ => M.pure true
section
variable {K : PySem.W.Frag} {mg : Str → Option Value} {E : XK} {H G HB GB H0 : Hp} {μ μB : Mu} {ρ : En} {σ : L2.St}
theorem Post.nbind {α β γ δ : Type} {R : RR β α} {R2 : RR δ γ} {m : M γ} {f : γ → M α} {st : Sto} {Q : β → Hp → Prop} {Q2 : δ → Hp → Prop} (p : Post wW K mg E R HB GB μB ((noX m).bind f st) Q)
    (h : ∀ a st' v H' G' μ', Wd wW K H' G' μ' st' → Stp H G μ H' G' μ' → R2.r H H' G' μ' v a → Post wW K mg E R HB GB μB (f a st') Q → Q2 v H') : Post wW K mg xNo R2 H G μ (m st) Q2 := by
  unfold M.bind noX at p
  cases e : m st with
  | ok a st' =>
    rw [e] at p
    exact fun v H' G' μ' w t q => h a st' v H' G' μ' w t q p
  | err x st' =>
    rw [e] at p
    exact p.elim
  | bad => rw [e] at p; exact p.elim
theorem ER.no1 (e : ER K H G μ H0 ρ σ) (v : Nat) : ER K H G μ H0 (ρ.set v .no) (σ.set v none) where
  val := fun j d q => by
    by_cases h : v = j
    · subst h
      by_cases hl : v < ρ.length
      · rw [List.getElem?_set_self hl] at q; cases q
      · rw [List.getElem?_eq_none (by rw [List.length_set]; omega)] at q; cases q
    · rw [List.getElem?_set_ne h] at q ⊢
      exact e.val j d q
  own := fun j d q => by
    by_cases h : v = j
    · subst h
      by_cases hl : v < ρ.length
      · rw [List.getElem?_set_self hl] at q; cases q
      · rw [List.getElem?_eq_none (by rw [List.length_set]; omega)] at q; cases q
    · rw [List.getElem?_set_ne h] at q ⊢
      exact e.own j d q
  inj := fun j k ds es a q1 q2 z1 z2 => by
    have no : ∀ (ds : List D), (ρ.set v Slot.no)[v]? ≠ some (.own ds) := fun ds q => by
      by_cases hl : v < ρ.length
      · rw [List.getElem?_set_self hl] at q; cases q
      · rw [List.getElem?_eq_none (by rw [List.length_set]; omega)] at q; cases q
    by_cases h : v = j
    · subst h; exact absurd q1 (no ds)
    · by_cases h' : v = k
      · subst h'; exact absurd q2 (no es)
      · rw [List.getElem?_set_ne h] at q1 z1
        rw [List.getElem?_set_ne h'] at q2 z2
        exact e.inj j k ds es a q1 q2 z1 z2
  len := by rw [List.length_set, List.length_set]; exact e.len
  old := e.old
theorem ER.wipe (e : ER K H G μ H0 ρ σ) : ∀ vs : List Nat, ER K H G μ H0 (wipeE ρ vs) (L2.wipe σ vs)
  | [] => e
  | v :: vs => (ER.wipe e vs).no1 v
end
section
variable {X : Cx} {E : XK} {H0 : Hp} {it : En → M (List D)} {pt : Pt} {vs : List Nat} {tt : En → M Bool} {te : En → M D}
theorem wipe_none : ∀ {vs : List Nat} {σ : L2.St} {v : Nat}, v ∈ vs → (L2.wipe σ vs).set v none = L2.wipe σ vs
  | w :: vs, σ, v, h => by
    unfold L2.wipe
    by_cases e : v = w
    · subst e; rw [List.set_set]
    · have hm : v ∈ vs := (List.mem_cons.mp h).resolve_left e
      rw [List.set_comm _ _ (fun z => e z.symm), wipe_none hm]
theorem wipe_sub : ∀ (ws vs : List Nat) (σ : L2.St), (∀ v ∈ ws, v ∈ vs) → L2.wipe (L2.wipe σ vs) ws = L2.wipe σ vs
  | [], _, _, _ => rfl
  | w :: ws, vs, σ, h => by
    show (L2.wipe (L2.wipe σ vs) ws).set w none = _
    rw [wipe_sub ws vs σ fun v hv => h v (List.mem_cons_of_mem _ hv), wipe_none (h w List.mem_cons_self)]
theorem wipe_idem (vs : List Nat) (σ : L2.St) : L2.wipe (L2.wipe σ vs) vs = L2.wipe σ vs := wipe_sub vs vs σ fun _ h => h
theorem lc_read (hv : ∀ i ∈ pt.slots, i ∈ vs) : ∀ (σ : L2.St) (H : Hp) (Q : VK), Se X E H0 (rFresh X.K) (eLc it pt vs tt te) σ H Q →
    tLc (Se X E H0 (rIt X.w X.K) it) (pt.g X.K) (Se X xNo H0 rTrue tt) (Se X xNo H0 (rRep X.K) te) vs σ H Q := by
  intro σ H Q ⟨G, μ, st, ρ, w, er, q⟩
  refine ⟨G, μ, st, ρ, w, er, Post.raw q fun ds st1 J H1 G1 μ1 w1 s1 r1 q0 => ?_⟩
  intro L hL
  obtain ⟨hz, hJ⟩ := r1
  have q1 := q0.step s1
  have er1 : ER X.K H1 G1 μ1 H0 (wipeE ρ vs) (L2.wipe σ vs) := (er.step s1).wipe vs
  have g1L : G1 L = none := none_before w1.imm.th hL
  obtain ⟨wL, sL⟩ := w1.lay (o := .lst []) hL
  have nL : ∀ n, μ1 n ≠ some L := fun k e => by
    obtain ⟨b, h1, _, h3⟩ := w1.obj k _ (List.getElem?_eq_getElem (w1.dom k L e))
    rw [e] at h1; cases h1
    obtain ⟨u, hu⟩ := h3.there
    rw [hL] at hu; cases hu
  -- L stays out of the fixed part and of the store
  have gL : ∀ {H' G' : Hp} {μ' : Mu}, Stp H1 G1 μ1 H' G' μ' → G1 L = none := fun _ => g1L
  let In : Nat → Hp → Prop := fun i H => ∃ G μ st acc accD, Wd X.w X.K H G μ st ∧ Stp H1 G1 μ1 H G μ ∧ H L = some (.lst acc) ∧ RepL X.K G μ acc accD ∧ G L = none ∧ (∀ n, μ n ≠ some L) ∧ acc.length ≤ i ∧
    Post X.w X.K X.mg E (rFresh X.K) H1 G1 μ1 (((noX (lcL pt.set tt te (wipeE ρ vs) (ds.drop i))).bind fun ys => M.pure (accD ++ ys)) st) Q
  refine ⟨fun i m H => m = ds.length - i ∧ i ≤ ds.length ∧ In i H, ⟨ds.length, by simp, Nat.zero_le _, G1, μ1, st1, [], [], wL, sL, upd_same, .nil, g1L, nL, Nat.zero_le _, ?_⟩, ?_⟩
  · show Post _ _ _ _ _ _ _ _ (((noX (lcL pt.set tt te (wipeE ρ vs) ds)).bind fun ys => M.pure ([] ++ ys)) st1) Q
    have e : (fun ys : List D => (M.pure ([] ++ ys) : M (List D))) = M.pure := rfl
    rw [e, M.bind_pure]
    exact q1
  · rintro i m H ⟨rfl, hi, G, μ, st, acc, accD, w, s, hH, ra, gL, nL, hacc, q⟩
    obtain ⟨hgo, hstop⟩ := hJ H G μ st w s.g s.m
    by_cases hlt : i < ds.length
    · obtain ⟨go, hy⟩ := hgo i hlt
      refine .inr ⟨go, In (i + 1), fun H' h => ⟨_, by omega, rfl, hlt, h⟩, fun x H2 hx => ?_⟩
      obtain ⟨G2, w2, s2, d, hd, rd⟩ := hy x H2 hx
      rw [List.drop_eq_getElem_cons hlt] at q
      have ed : ds[i] = d := Option.some.inj ((List.getElem?_eq_getElem hlt).symm.trans hd)
      rw [ed] at q
      unfold lcL at q
      rw [noX_bind, noX_opt, M.bind_assoc] at q
      obtain ⟨ρ2, hset, q⟩ := Post.opt q
      have t2 := s.trans s2
      refine Pt.ok hset w2 rd (er1.step t2) fun σ2 er2 hw => ⟨(hw vs hv).trans (wipe_idem vs σ), ?_⟩
      rw [noX_bind, M.bind_assoc] at q
      refine ⟨G2, μ, st, ρ2, w2, er2, Post.nbind q fun b st3 b' H3 G3 μ3 w3 s3 r3 q3 => ?_⟩
      cases r3
      have keep : ∀ {H' G' : Hp} {μ' : Mu}, Stp H G μ H' G' μ' → H' L = some (.lst acc) ∧ RepL X.K G' μ' acc accD ∧ G' L = none ∧ ∀ n, μ' n ≠ some L := fun {H' G' μ'} z => by
        refine ⟨z.fr L _ hH nL, ra.mono z.g z.m, ?_, fun n e => ?_⟩
        · cases e : G' L with
          | none => rfl
          | some o => have := z.ng L gL (by rw [e]; simp); rw [hH] at this; cases this
        · cases e' : μ n with
          | some b => have := z.m n b e'; rw [e] at this; cases this; exact nL n e'
          | none => have := z.nm n L e' e; rw [hH] at this; cases this
      cases b with
      | false =>
        obtain ⟨k1, k2, k3, k4⟩ := keep (s2.trans s3)
        exact ⟨G3, μ3, st3, acc, accD, w3, t2.trans s3, k1, k2, k3, k4, by omega, q3⟩
      | true =>
        have q3' : Post X.w X.K X.mg E (rFresh X.K) H1 G1 μ1 (((noX ((te ρ2).bind fun y => (lcL pt.set tt te (wipeE ρ vs) (ds.drop (i + 1))).bind fun ys => M.pure (y :: ys))).bind fun ys => M.pure (accD ++ ys)) st3) Q := q3
        rw [noX_bind, M.bind_assoc] at q3'
        refine ⟨G3, μ3, st3, ρ2, w3, er2.step s3, Post.nbind q3' fun dy st4 y H4 G4 μ4 w4 s4 r4 q4 => ?_⟩
        obtain ⟨k1, k2, k3, k4⟩ := keep ((s2.trans s3).trans s4)
        refine ⟨acc, k1, by omega, G4, μ4, st4, acc ++ [y], accD ++ [dy], w4.over k3 k4, ((t2.trans s3).trans s4).over hL, upd_same, k2.append (.cons r4 .nil), k3, k4, by rw [List.length_append, List.length_singleton]; omega, ?_⟩
        rw [noX_bind, M.bind_assoc] at q4
        have e : (fun a : List D => (noX (M.pure (dy :: a))).bind fun ys => M.pure (accD ++ ys)) = fun ys => M.pure ((accD ++ [dy]) ++ ys) := by
          funext ys
          rw [noX_pure, M.pure_bind, List.append_assoc]
          rfl
        rw [e] at q4
        exact q4
    · have e : i = ds.length := by omega
      subst e
      rw [List.drop_length] at q
      refine .inl ⟨hstop _ (Nat.le_refl _), ?_⟩
      have q' : Post X.w X.K X.mg E (rFresh X.K) H1 G1 μ1 (M.pure (accD ++ []) st) Q := q
      rw [List.append_nil] at q'
      exact q' (.ref L) H G μ w s ⟨L, acc, rfl, hH, ra, gL, nL, hL⟩
variable {elt tg iter : Expr} {ifs : List Expr} {scope : Scope} {own : List (Str × Nat)} {pos : Pos}
/-- the tests of a clause -/
def JTs (X : Cx) (E : XK) (H0 : Hp) (f : En → M Bool) (es : List Expr) : Prop := PTs X es (Se X E H0 rTrue f)
theorem jts_nil : JTs X E H0 tTrue [] := ⟨fun pins s σ H Q I ⟨G, μ, st, ρ, w, er, p⟩ => (pts_nil).run pins s σ H Q I (p true H G μ w .refl rfl)⟩
theorem jts_one {c : Expr} (h : JT X E H0 tt c) : JTs X E H0 tt [c] := pts_one h
theorem jf_lc (hc : X.calm = true) (hN : X.N.Nodup) (hi : JI X E H0 tg it iter) (ok : BlkOk X.N X.env.scope scope own) (hv : ∀ i ∈ pt.slots, i ∈ own.map (·.2))
    (hg : ∀ (s : Shared) (H : Hp) (C : Addr) (cl : List (Str × Addr)) (fp : List Addr), PG (X.blk s H scope (compEnvC scope cl C X.env) fp) tg (pt.g X.K))
    (ht : ∀ (s : Shared) (H : Hp) (C : Addr) (cl : List (Str × Addr)) (fp : List Addr), JTs (X.blk s H scope (compEnvC scope cl C X.env) fp) xNo H0 tt ifs)
    (he : ∀ (s : Shared) (H : Hp) (C : Addr) (cl : List (Str × Addr)) (fp : List Addr), JE (X.blk s H scope (compEnvC scope cl C X.env) fp) xNo H0 te elt) (hs : ∀ x, foldedSetIterable iter X.env x = pure x := by intro _; rfl) :
    JF X E H0 (eLc it pt (own.map (·.2)) tt te) (.ListComp elt [⟨tg, iter, ifs, 0⟩] scope pos) := PE.imp (pe_lc (tt := Se X xNo H0 rTrue tt) (te := Se X xNo H0 (rRep X.K) te) hc hN hi ok hg ht he hs) (lc_read hv)
/-- name = [..] on one line, the name a local of the def alone -/
theorem js_ownLc {Φ : Ent} {i : Nat} {y : Str} {py spos : Pos} (hc : X.calm = true) (hN : X.N.Nodup) (hy : X.N[i]? = some y) (hyl : X.env.scope.names.lookup y = some .local)
    (hsw : swapsWith (.ListComp elt [⟨tg, iter, ifs, 0⟩] scope pos) (some (.Name y py)) spos.line X.env = pure true) (hi : JI X E Φ.H tg it iter) (ok : BlkOk X.N X.env.scope scope own) (hv : ∀ i ∈ pt.slots, i ∈ own.map (·.2))
    (hg : ∀ (s : Shared) (H : Hp) (C : Addr) (cl : List (Str × Addr)) (fp : List Addr), PG (X.blk s H scope (compEnvC scope cl C X.env) fp) tg (pt.g X.K))
    (ht : ∀ (s : Shared) (H : Hp) (C : Addr) (cl : List (Str × Addr)) (fp : List Addr), JTs (X.blk s H scope (compEnvC scope cl C X.env) fp) xNo Φ.H tt ifs)
    (he : ∀ (s : Shared) (H : Hp) (C : Addr) (cl : List (Str × Addr)) (fp : List Addr), JE (X.blk s H scope (compEnvC scope cl C X.env) fp) xNo Φ.H te elt) (hs : ∀ x, foldedSetIterable iter X.env x = pure x := by intro _; rfl) :
    JS X E Φ (sOwn i (eLc it pt (own.map (·.2)) tt te)) (.Assign [.Name y py] (.ListComp elt [⟨tg, iter, ifs, 0⟩] scope pos) spos) := by
  refine PS.imp (ps_setLc (tt := Se X xNo Φ.H rTrue tt) (te := Se X xNo Φ.H (rRep X.K) te) hc hN hy hyl hsw hi ok hg ht he hs) fun Dn σ H ⟨G, μ, st, ρ, w, er, s, p⟩ => ?_
  refine lc_read hv _ _ _ ⟨G, μ, st, ρ, w, er, p.bind s fun ds st' v H' G' μ' w' s' t' r q => ?_⟩
  exact put_own q w' er s' s r
end
end PL

set_option linter.all false
set_option maxRecDepth 100000
set_option maxHeartbeats 4000000
/-! PL7: operators, comparisons, subscripts, slices, len, isinstance, all, any over data. -/
namespace PL
open PySem PySem.Spec L2
variable {wW : World}

mutual
def D.py : D → PyData
  | .non => .none
  | .bl b => .bool b
  | .int i => .int i
  | .str x => .str x
  | .tup ds => .tuple (pyL ds)
  | .lst ds => .list (pyL ds)
  | .frz ds => .list (pyL ds)
  | .ref _ => .dict []
def pyL : List D → List PyData
  | [] => []
  | d :: ds => d.py :: pyL ds
end
theorem pyL_map : ∀ ds : List D, pyL ds = ds.map D.py
  | [] => by unfold pyL; rfl
  | d :: ds => by unfold pyL; rw [pyL_map ds]; rfl
/-- data that may be compared: no object of the store, at most 64 deep, texts of real signs -/
def D.shp (d : D) : Bool := SeqAt.shaped d.py
def D.eqv (d e : D) : Bool := PyData.eqv d.py e.py
section
variable {K : PySem.W.Frag} {G H : Hp} {μ : Mu}
mutual
theorem Rep.dp (s : Sub G H) : ∀ {v : V} {d : D}, Rep K G μ v d → d.py.canLay0 = true → Dp K H v d.py
  | _, .non, .non, _ => by unfold D.py; exact .non
  | _, .bl b, .bl _, _ => by unfold D.py; exact .bl b
  | _, .int i, .int _, _ => by unfold D.py; exact .int i
  | _, .str x, .str _, _ => by unfold D.py; exact .str x
  | _, .tup ds, .tup h r, c => by
    unfold D.py
    exact .tup (s.sqT h) (RepL.dp s r (by simpa [D.py, PyData.canLay0] using c))
  | _, .lst ds, .lst h r, c => by
    unfold D.py
    exact .lst (.inl (.inl (s _ _ h))) (RepL.dp s r (by simpa [D.py, PyData.canLay0] using c))
  | _, .frz ds, .frz h r, c => by
    unfold D.py
    exact .lst (s.sqL h) (RepL.dp s r (by simpa [D.py, PyData.canLay0] using c))
  | _, .ref _, .ref _, c => by simp [D.py, PyData.canLay0] at c
theorem RepL.dp (s : Sub G H) : ∀ {vs : List V} {ds : List D}, RepL K G μ vs ds → PyData.canLayAll0 (pyL ds) = true → DpAll K H vs (pyL ds)
  | _, [], .nil, _ => by unfold pyL; exact .nil
  | _, d :: ds, .cons h r, c => by
    have c' : d.py.canLay0 = true ∧ PyData.canLayAll0 (pyL ds) = true := by simpa [pyL, PyData.canLayAll0] using c
    unfold pyL
    exact .cons (Rep.dp s h c'.1) (RepL.dp s r c'.2)
end
theorem BRep.dp (s : Sub G H) {v : V} {d : D} (r : BRep K H G μ v d) (c : d.shp = true) : Dp K H v d.py := by
  have c := SeqAt.canLay_of_shaped c
  rcases r with r | ⟨a, vs, ds, rfl, rfl, h, r, _⟩
  · exact r.dp s c
  · have c' : PyData.canLayAll0 (pyL ds) = true := by simpa [D.py, PyData.canLay0] using c
    exact .lst (.inl (.inl h)) (r.dp s c')
end

def bl (b : Bool) : M D := M.pure (.bl b)
def guardM {α : Type} (c : Bool) (m : M α) : M α := if c = true then m else M.bad
theorem Post.guard {K : PySem.W.Frag} {mg : Str → Option Value} {E : XK} {α β : Type} {R : RR β α} {H G : Hp} {μ : Mu} {c : Bool} {m : M α} {st : Sto} {Q : β → Hp → Prop} (p : Post wW K mg E R H G μ (guardM c m st) Q) : c = true ∧ Post wW K mg E R H G μ (m st) Q := by
  unfold guardM at p
  by_cases h : c = true
  · rw [if_pos h] at p; exact ⟨h, p⟩
  · rw [if_neg h] at p; exact p.elim
theorem Post.bl {K : PySem.W.Frag} {mg : Str → Option Value} {E : XK} {H G : Hp} {μ : Mu} {b : Bool} {st : Sto} {Q : VK} (p : Post wW K mg E (rRep K) H G μ (PL.bl b st) Q) (w : Wd wW K H G μ st) : Q (.bl b) H := p _ _ _ _ w .refl (.bl b)
section
variable {X : Cx} {E : XK} {H0 : Hp} {e a b c : Expr} {f g h : En → M D} {pos p0 : Pos}

/-! ### == and != of data -/
def eqM (x y : D) : M D := guardM (x.shp && y.shp) (PL.bl (x.eqv y))
def neM (x y : D) : M D := guardM (x.shp && y.shp) (PL.bl (!x.eqv y))
theorem o_eq : OpJ X E (rEqD X.K) eqM := fun H G μ st x y dx dy Q w rx ry p => by
  obtain ⟨c, p⟩ := p.guard
  rw [Bool.and_eq_true] at c
  exact ⟨_, _, rx.dp w.imm c.1, ry.dp w.imm c.2, c.1, c.2, p.bl w⟩
theorem o_ne : OpJ X E (rNeD X.K) neM := fun H G μ st x y dx dy Q w rx ry p => by
  obtain ⟨c, p⟩ := p.guard
  rw [Bool.and_eq_true] at c
  exact ⟨_, _, rx.dp w.imm c.1, ry.dp w.imm c.2, c.1, c.2, p.bl w⟩
/-! ### in, not in: a list, a tuple -/
def rInA (K : PySem.W.Frag) (neg : Bool) : R2 := fun x y H Q => ∃ d ds, Dp K H x d ∧ (Dp K H y (.list ds) ∨ Dp K H y (.tuple ds)) ∧ SeqAt.shaped d = true ∧ PyData.canLayAll0 ds = true ∧ Q (.bl (if neg then !ds.any fun z => PyData.eqv z d else ds.any fun z => PyData.eqv z d)) H
theorem op_inA (hu : X.A.units + 65 < cLine) : OpR X (compareOp .In) (rInA X.K false) := by
  intro pins s σ H x y v u Q I rx ry ⟨d, ds, hd, he, sd, cs, q⟩
  obtain ⟨as, r1⟩ := Dp.reads I d x v hd rx
  have hr := PyProof.Rows.room_in_shaped (xs := ds) sd hu
  rcases he with he | he
  · obtain ⟨bs, r2⟩ := Dp.reads I (.list ds) y u he ry
    exact SeqAt.in_list_reads r2 r1 cs (SeqAt.canLay_of_shaped sd) hr ⟨.bl _, H, I, rfl, q⟩
  · obtain ⟨bs, r2⟩ := Dp.reads I (.tuple ds) y u he ry
    exact SeqAt.in_tuple_reads r2 r1 cs (SeqAt.canLay_of_shaped sd) hr ⟨.bl _, H, I, rfl, q⟩
theorem op_notInA (hu : X.A.units + 65 < cLine) : OpR X (compareOp .NotIn) (rInA X.K true) := by
  intro pins s σ H x y v u Q I rx ry ⟨d, ds, hd, he, sd, cs, q⟩
  obtain ⟨as, r1⟩ := Dp.reads I d x v hd rx
  have hr := PyProof.Rows.room_in_shaped (xs := ds) sd hu
  rcases he with he | he
  · obtain ⟨bs, r2⟩ := Dp.reads I (.list ds) y u he ry
    exact SeqAt.notIn_list_reads r2 r1 cs (SeqAt.canLay_of_shaped sd) hr ⟨.bl _, H, I, rfl, q⟩
  · obtain ⟨bs, r2⟩ := Dp.reads I (.tuple ds) y u he ry
    exact SeqAt.notIn_tuple_reads r2 r1 cs (SeqAt.canLay_of_shaped sd) hr ⟨.bl _, H, I, rfl, q⟩
def strIn (s z : Str) : Bool := match s.cps.toList with
  | [c] => decide (c ∈ z.cps.toList)
  | _ => !(Builtin.Str.occurrences z s 0 z.length 1).isEmpty
theorem strIn_eq (s z : Str) : strIn s z = !(Builtin.Str.occurrences z s 0 z.length 1).isEmpty := by
  unfold strIn
  split
  · rename_i c h
    have e : s = ⟨#[c]⟩ := by
      cases s with
      | mk cps =>
        have : cps = #[c] := by
          have h' : cps.toList = [c] := h
          exact Array.toList_inj.mp h'
        rw [this]
    rw [e]
    exact (PySem.StrLaws.found_one z c).symm
  · rfl
def inM (x y : D) : M D := match y with
  | .str z => (match x with
    | .str s => PL.bl (strIn s z)
    | _ => M.bad)
  | y => guardM (x.shp && y.shp) (match seqD y with
    | some ds => PL.bl (ds.any fun z => z.eqv x)
    | none => M.bad)
def notInM (x y : D) : M D := match y with
  | .str z => (match x with
    | .str s => PL.bl (!strIn s z)
    | _ => M.bad)
  | y => guardM (x.shp && y.shp) (match seqD y with
    | some ds => PL.bl (!ds.any fun z => z.eqv x)
    | none => M.bad)
def rInB (K : PySem.W.Frag) (neg : Bool) : R2 := fun x y H Q => rInA K neg x y H Q ∨ ∃ i j, x = .str i ∧ y = .str j ∧ Q (.bl (if neg then !(!(Builtin.Str.occurrences j i 0 j.length 1).isEmpty) else !(Builtin.Str.occurrences j i 0 j.length 1).isEmpty)) H
theorem op_inB (hu : X.A.units + 65 < cLine) : OpR X (compareOp .In) (rInB X.K false) := (op_inA hu).or op_in_str
theorem op_notInB (hu : X.A.units + 65 < cLine) : OpR X (compareOp .NotIn) (rInB X.K true) := (op_notInA hu).or op_notIn_str
theorem any_py (ds : List D) (x : D) : ((pyL ds).any fun z => PyData.eqv z x.py) = ds.any fun z => z.eqv x := by
  rw [pyL_map, List.any_map]; rfl
theorem BRep.str {K : PySem.W.Frag} {H G : Hp} {μ : Mu} {v : V} {x : Str} (r : BRep K H G μ v (.str x)) : v = .str x := by
  rcases r with r | ⟨_, _, _, _, e, _⟩
  · cases r; rfl
  · cases e
theorem BRep.int {K : PySem.W.Frag} {H G : Hp} {μ : Mu} {v : V} {x : Int} (r : BRep K H G μ v (.int x)) : v = .int x := by
  rcases r with r | ⟨_, _, _, _, e, _⟩
  · cases r; rfl
  · cases e
theorem shp_all {ds : List D} {y : D} (h : seqD y = some ds) (c : y.shp = true) : PyData.canLayAll0 (pyL ds) = true ∧ (y.py = .list (pyL ds) ∨ y.py = .tuple (pyL ds)) := by
  have c := SeqAt.canLay_of_shaped c
  cases y with
  | tup es => cases h; exact ⟨by simpa [D.py, PyData.canLay0] using c, .inr (by unfold D.py; rfl)⟩
  | lst es => cases h; exact ⟨by simpa [D.py, PyData.canLay0] using c, .inl (by unfold D.py; rfl)⟩
  | frz es => cases h; exact ⟨by simpa [D.py, PyData.canLay0] using c, .inl (by unfold D.py; rfl)⟩
  | _ => cases h
theorem o_in : OpJ X E (rInB X.K false) inM := fun H G μ st x y dx dy Q w rx ry p => by
  have gen : ∀ {dy : D}, BRep X.K H G μ y dy → Post X.w X.K X.mg E (rRep X.K) H G μ (guardM (dx.shp && dy.shp) (match seqD dy with
    | some ds => PL.bl (ds.any fun z => z.eqv dx)
    | none => M.bad) st) Q → rInB X.K false x y H Q := fun {dy} ry p => by
    obtain ⟨c, p⟩ := p.guard
    rw [Bool.and_eq_true] at c
    cases hs : seqD dy with
    | none => rw [hs] at p; exact p.elim
    | some ds =>
      rw [hs] at p
      obtain ⟨c1, c2⟩ := shp_all hs c.2
      have dp := ry.dp w.imm c.2
      refine .inl ⟨_, pyL ds, rx.dp w.imm c.1, ?_, c.1, c1, ?_⟩
      · rcases c2 with c2 | c2
        · rw [c2] at dp; exact .inl dp
        · rw [c2] at dp; exact .inr dp
      · rw [any_py]; exact p.bl w
  cases dy with
  | str z =>
    cases dx with
    | str s => exact .inr ⟨s, z, rx.str, ry.str, by rw [← strIn_eq]; exact p.bl w⟩
    | _ => exact p.elim
  | _ => exact gen ry p
theorem o_notIn : OpJ X E (rInB X.K true) notInM := fun H G μ st x y dx dy Q w rx ry p => by
  have gen : ∀ {dy : D}, BRep X.K H G μ y dy → Post X.w X.K X.mg E (rRep X.K) H G μ (guardM (dx.shp && dy.shp) (match seqD dy with
    | some ds => PL.bl (!ds.any fun z => z.eqv dx)
    | none => M.bad) st) Q → rInB X.K true x y H Q := fun {dy} ry p => by
    obtain ⟨c, p⟩ := p.guard
    rw [Bool.and_eq_true] at c
    cases hs : seqD dy with
    | none => rw [hs] at p; exact p.elim
    | some ds =>
      rw [hs] at p
      obtain ⟨c1, c2⟩ := shp_all hs c.2
      have dp := ry.dp w.imm c.2
      refine .inl ⟨_, pyL ds, rx.dp w.imm c.1, ?_, c.1, c1, ?_⟩
      · rcases c2 with c2 | c2
        · rw [c2] at dp; exact .inl dp
        · rw [c2] at dp; exact .inr dp
      · rw [any_py]; exact p.bl w
  cases dy with
  | str z =>
    cases dx with
    | str s => exact .inr ⟨s, z, rx.str, ry.str, by rw [← strIn_eq]; exact p.bl w⟩
    | _ => exact p.elim
  | _ => exact gen ry p
end
end PL

set_option linter.all false
set_option maxRecDepth 100000
set_option maxHeartbeats 4000000
/-! PL8: orders, arithmetic, +, subscripts, slices, len, isinstance, all, any. -/
namespace PL
open PySem PySem.Spec L2
variable {wW : World}
section
variable {X : Cx} {E : XK} {H0 : Hp} {e a b c : Expr} {f g h : En → M D} {pos p0 : Pos}
theorem BRep.bl {K : PySem.W.Frag} {H G : Hp} {μ : Mu} {v : V} {x : Bool} (r : BRep K H G μ v (.bl x)) : v = .bl x := by
  rcases r with r | ⟨_, _, _, _, e, _⟩
  · cases r; rfl
  · cases e
theorem BRep.non {K : PySem.W.Frag} {H G : Hp} {μ : Mu} {v : V} (r : BRep K H G μ v .non) : v = .non := by
  rcases r with r | ⟨_, _, _, _, e, _⟩
  · cases r; rfl
  · cases e
/-- a sequence, where it stands now -/
theorem BRep.seq {K : PySem.W.Frag} {H G : Hp} {μ : Mu} {v : V} {d : D} {ds : List D} (s : Sub G H) (r : BRep K H G μ v d) (h : seqD d = some ds) : ∃ a vs, v = .ref a ∧ (SqL K H a vs ∨ SqT K H a vs) ∧ RepL K G μ vs ds := by
  rcases r with r | ⟨a, vs, es, rfl, rfl, h1, r, _⟩
  · cases r with
    | tup h1 r => cases h; exact ⟨_, _, rfl, .inr (s.sqT h1), r⟩
    | lst h1 r => cases h; exact ⟨_, _, rfl, .inl (.inl (.inl (s _ _ h1))), r⟩
    | frz h1 r => cases h; exact ⟨_, _, rfl, .inl (s.sqL h1), r⟩
    | _ => cases h
  · cases h; exact ⟨a, vs, rfl, .inl (.inl (.inl h1)), r⟩
theorem BRep.tup {K : PySem.W.Frag} {H G : Hp} {μ : Mu} {v : V} {ds : List D} (s : Sub G H) (r : BRep K H G μ v (.tup ds)) : ∃ a vs, v = .ref a ∧ SqT K G a vs ∧ RepL K G μ vs ds := by
  rcases r with r | ⟨_, _, _, _, e, _⟩
  · cases r with
    | tup h1 r => exact ⟨_, _, rfl, h1, r⟩
  · cases e
theorem BRep.lst {K : PySem.W.Frag} {H G : Hp} {μ : Mu} {v : V} {ds : List D} (s : Sub G H) (r : BRep K H G μ v (.lst ds)) : ∃ a vs, v = .ref a ∧ H a = some (.lst vs) ∧ RepL K G μ vs ds := by
  rcases r with r | ⟨a, vs, es, rfl, e, h1, r, _⟩
  · cases r with
    | lst h1 r => exact ⟨_, _, rfl, s _ _ h1, r⟩
  · cases e; exact ⟨a, vs, rfl, h1, r⟩
/-! ### orders -/
def ltS (i j : Str) : Bool := decide (i.cps.toList < j.cps.toList)
def ltM (x y : D) : M D := match x, y with
  | .int i, .int j => PL.bl (decide (i < j))
  | .str i, .str j => PL.bl (ltS i j)
  | _, _ => M.bad
def leM (x y : D) : M D := match x, y with
  | .int i, .int j => PL.bl (decide (i ≤ j))
  | .str i, .str j => PL.bl (!ltS j i)
  | _, _ => M.bad
def gtM (x y : D) : M D := match x, y with
  | .int i, .int j => PL.bl (decide (j < i))
  | .str i, .str j => PL.bl (ltS j i)
  | _, _ => M.bad
def geM (x y : D) : M D := match x, y with
  | .int i, .int j => PL.bl (decide (j ≤ i))
  | .str i, .str j => PL.bl (!ltS i j)
  | _, _ => M.bad
/-- two ints, or two texts -/
def rOrd (p : Int → Int → Bool) (q : Str → Str → Bool) : R2 := fun x y H Q => rI0 (fun i j => .bl (p i j)) x y H Q ∨ ∃ i j, x = .str i ∧ y = .str j ∧ Q (.bl (q i j)) H
def ordM (p : Int → Int → Bool) (q : Str → Str → Bool) (x y : D) : M D := match x, y with
  | .int i, .int j => PL.bl (p i j)
  | .str i, .str j => PL.bl (q i j)
  | _, _ => M.bad
theorem o_ord {p : Int → Int → Bool} {q : Str → Str → Bool} : OpJ X E (rOrd p q) (ordM p q) := fun H G μ st x y dx dy Q w rx ry h => by
  cases dx with
  | int i =>
    cases dy with
    | int j => exact .inl ⟨i, j, rx.int, ry.int, h.bl w⟩
    | _ => exact h.elim
  | str i =>
    cases dy with
    | str j => exact .inr ⟨i, j, rx.str, ry.str, h.bl w⟩
    | _ => exact h.elim
  | _ => cases dy <;> exact h.elim
theorem op_ltO : OpR X (compareOp .Lt) (rOrd (fun i j => decide (i < j)) ltS) := op_lt.or op_lt_str
theorem op_leO : OpR X (compareOp .LtE) (rOrd (fun i j => decide (i ≤ j)) fun i j => !ltS j i) := op_le.or op_le_str
theorem op_gtO : OpR X (compareOp .Gt) (rOrd (fun i j => decide (j < i)) fun i j => ltS j i) := op_gt.or op_gt_str
theorem op_geO : OpR X (compareOp .GtE) (rOrd (fun i j => decide (j ≤ i)) fun i j => !ltS i j) := op_ge.or op_ge_str
theorem o_lt : OpJ X E (rOrd (fun i j => decide (i < j)) ltS) ltM := o_ord
theorem o_le : OpJ X E (rOrd (fun i j => decide (i ≤ j)) fun i j => !ltS j i) leM := o_ord
theorem o_gt : OpJ X E (rOrd (fun i j => decide (j < i)) fun i j => ltS j i) gtM := o_ord
theorem o_ge : OpJ X E (rOrd (fun i j => decide (j ≤ i)) fun i j => !ltS i j) geM := o_ord
/-- a op b op' c -/
def eCh (p q : D → D → M D) (f g h : En → M D) : En → M D := fun ρ => (f ρ).bind fun x => (g ρ).bind fun y => (p x y).bind fun z => match z with
  | .bl true => (h ρ).bind fun u => q y u
  | .bl false => M.pure (.bl false)
  | _ => M.bad
theorem se_ch {r r' : R2} {p q : D → D → M D} (hp : OpJ X E r p) (hq : OpJ X E r' q) : ∀ σ H Q, Se X E H0 (rRep X.K) (eCh p q f g h) σ H Q → tChain r r' (Se X E H0 (rBRep X.K) f) (Se X E H0 (rBRep X.K) g) (Se X E H0 (rBRep X.K) h) σ H Q := by
  intro σ H Q ⟨G, μ, st, ρ, w, er, k⟩
  refine ⟨G, μ, st, ρ, w, er, Post.bind k fun dx st1 x H1 G1 μ1 w1 s1 r1 k1 => ?_⟩
  refine ⟨G1, μ1, st1, ρ, w1, er.step s1, Post.bind k1 fun dy st2 y H2 G2 μ2 w2 s2 r2 k2 => ?_⟩
  refine hp H2 G2 μ2 st2 x y dx dy _ w2 (r1.step s2).weak r2.weak (Post.bind k2 fun dz st3 z H3 G3 μ3 w3 s3 r3 k3 => ?_)
  cases r3 with
  | bl b =>
    refine ⟨b, rfl, ?_⟩
    cases b with
    | false => exact k3 _ _ _ _ w3 .refl (.bl false)
    | true => exact ⟨G3, μ3, st3, ρ, w3, ((er.step s1).step s2).step s3, Post.bind k3 fun du st4 u H4 G4 μ4 w4 s4 r4 k4 => hq H4 G4 μ4 st4 y u dy du Q w4 ((r2.step s3).step s4).weak r4.weak k4⟩
  | _ => exact k3.elim
theorem je_chain {op op' : CmpOp} {r r' : R2} {p q : D → D → M D} (ho : OpR X (compareOp op) r) (hp : OpJ X E r p) (ho' : OpR X (compareOp op') r') (hq : OpJ X E r' q) (ha : JB X E H0 f a) (hb : JB X E H0 g b) (hc : JB X E H0 h c)
    (hm : lastMarks [op, op'] [b, c] = false := by with_unfolding_all rfl) : JE X E H0 (eCh p q f g h) (.Compare a [op, op'] [b, c] pos) := PE.imp (pe_chain ho ho' ha hb hc hm) (se_ch hp hq)
theorem jt_chain {op op' : CmpOp} {r r' : R2} {p q : D → D → M D} (ho : OpR X (compareOp op) r) (hp : OpJ X E r p) (ho' : OpR X (compareOp op') r') (hq : OpJ X E r' q) (ha : JB X E H0 f a) (hb : JB X E H0 g b) (hc : JB X E H0 h c)
    (hm : lastMarks [op, op'] [b, c] = false := by with_unfolding_all rfl) : JT X E H0 (tBl (eCh p q f g h)) (.Compare a [op, op'] [b, c] pos) := by
  refine PT.imp (pt_chain ho ho' ha hb hc hm) fun σ H Q ⟨G, μ, st, ρ, w, er, k⟩ => se_ch hp hq _ _ _ ⟨G, μ, st, ρ, w, er, Post.bind k fun d st1 x H1 G1 μ1 w1 s1 r1 q1 => ?_⟩
  cases r1 with
  | bl b => exact ⟨b, rfl, q1 _ _ _ _ w1 .refl rfl⟩
  | _ => exact q1.elim
/-! ### arithmetic -/
def int2 (C : Int → Int → Bool) (p : Int → Int → Int) (x y : D) : M D := match x, y with
  | .int i, .int j => guardM (C i j) (M.pure (.int (p i j)))
  | _, _ => M.bad
theorem o_int {C : Int → Int → Prop} {C' : Int → Int → Bool} {p : Int → Int → Int} (hC : ∀ i j, C' i j = true → C i j) : OpJ X E (rI C fun i j => .int (p i j)) (int2 C' p) := fun H G μ st x y dx dy Q w rx ry h => by
  cases dx with
  | int i =>
    cases dy with
    | int j =>
      obtain ⟨c, h⟩ := Post.guard h
      exact ⟨i, j, rx.int, ry.int, hC i j c, h _ _ _ _ w .refl (.int _)⟩
    | _ => exact h.elim
  | _ => cases dy <;> exact h.elim
theorem o_int0 {p : Int → Int → Int} : OpJ X E (rI0 fun i j => .int (p i j)) (int2 (fun _ _ => true) p) := fun H G μ st x y dx dy Q w rx ry h => by
  cases dx with
  | int i =>
    cases dy with
    | int j =>
      obtain ⟨c, h⟩ := Post.guard h
      exact ⟨i, j, rx.int, ry.int, h _ _ _ _ w .refl (.int _)⟩
    | _ => exact h.elim
  | _ => cases dy <;> exact h.elim
abbrev subM := int2 (fun _ _ => true) fun i j => i - j
abbrev mulM := int2 (fun i j => decide ((-(2 ^ 64) < i ∧ i < 2 ^ 64) ∨ (-(2 ^ 64) < j ∧ j < 2 ^ 64))) fun i j => i * j
abbrev fdivM := int2 (fun _ j => decide (0 < j ∧ j < 1073741824)) fun i j => i / j
abbrev modM := int2 (fun _ j => decide (0 < j)) fun i j => i % j
abbrev powM := int2 (fun i j => decide (0 ≤ j ∧ j ≤ 1000000 ∧ i.natAbs < 2 ^ 64)) fun i j => i ^ j.toNat
theorem o_sub : OpJ X E (rI0 fun i j => .int (i - j)) subM := o_int0
theorem o_mul : OpJ X E (rI CMul fun i j => .int (i * j)) mulM := o_int fun i j h => by have q := of_decide_eq_true h; exact q
theorem o_fdiv : OpJ X E (rI CDiv fun i j => .int (i / j)) fdivM := o_int fun i j h => by have q := of_decide_eq_true h; exact q
theorem o_mod : OpJ X E (rI (fun _ j => 0 < j) fun i j => .int (i % j)) modM := o_int fun _ _ h => of_decide_eq_true h
theorem o_pow : OpJ X E (rI CPow fun i j => .int (i ^ j.toNat)) powM := o_int fun i j h => by have q := of_decide_eq_true h; exact q
/-- a + b: ints, texts, tuples -/
def addM (x y : D) : M D := match x, y with
  | .int i, .int j => M.pure (.int (i + j))
  | .str i, .str j => (line (i.length + j.length)).bind fun _ => M.pure (.str (i ++ j))
  | .tup xs, .tup ys => (line (xs.length + ys.length)).bind fun _ => M.pure (.tup (xs ++ ys))
  | .lst xs, .lst ys => (line (xs.length + ys.length)).bind fun _ => M.pure (.lst (xs ++ ys))
  | _, _ => M.bad
def rAddA (K : PySem.W.Frag) : R2 := fun x y H Q => rI0 (fun i j => .int (i + j)) x y H Q ∨ (∃ i j, x = .str i ∧ y = .str j ∧ i.length + j.length ≤ sizeLine ∧ Q (.str (i ++ j)) H) ∨ rCatA K x y H Q ∨ rCat x y H Q
theorem op_addA : OpR X (binaryOp .Add) (rAddA X.K) := op_add.or (op_add_str.or (op_catA.or op_cat))
theorem o_add : OpJ X E (rAddA X.K) addM := fun H G μ st x y dx dy Q w rx ry h => by
  cases dx with
  | int i =>
    cases dy with
    | int j => exact .inl ⟨i, j, rx.int, ry.int, h _ _ _ _ w .refl (.int _)⟩
    | _ => exact h.elim
  | str i =>
    cases dy with
    | str j =>
      obtain ⟨c, h⟩ := Post.line (X := X) h
      exact .inr (.inl ⟨i, j, rx.str, ry.str, c, h _ _ _ _ w .refl (.str _)⟩)
    | _ => exact h.elim
  | tup xs =>
    cases dy with
    | tup ys =>
      obtain ⟨c, h⟩ := Post.line (X := X) h
      obtain ⟨p, vs, rfl, h1, r1⟩ := rx.tup w.imm
      obtain ⟨q, us, rfl, h2, r2⟩ := ry.tup w.imm
      refine .inr (.inr (.inl ⟨p, q, vs, us, rfl, rfl, w.imm.sqT h1, w.imm.sqT h2, by rw [RepL.length r1, RepL.length r2]; exact c, fun e => ?_, fun _ e => ?_, fun _ _ l hl => ?_⟩))
      · subst e; cases r1; exact h _ _ _ _ w .refl (.tup h2 r2)
      · subst e; cases r2; rw [List.append_nil] at h; exact h _ _ _ _ w .refl (.tup h1 r1)
      · obtain ⟨w2, s2⟩ := w.new (o := .tup (vs ++ us)) hl
        exact h _ _ _ _ w2 s2 (.tup (.inl (.inl upd_same)) ((r1.append r2).mono s2.g s2.m))
    | _ => exact h.elim
  | lst xs =>
    cases dy with
    | lst ys =>
      obtain ⟨c, h⟩ := Post.line (X := X) h
      obtain ⟨p, vs, rfl, h1, r1⟩ := rx.lst w.imm
      obtain ⟨q, us, rfl, h2, r2⟩ := ry.lst w.imm
      refine .inr (.inr (.inr ⟨p, q, vs, us, rfl, rfl, h1, h2, by rw [RepL.length r1, RepL.length r2]; exact c, fun l hl => ?_⟩))
      obtain ⟨w2, s2⟩ := w.new (o := .lst (vs ++ us)) hl
      exact h _ _ _ _ w2 s2 (.lst upd_same ((r1.append r2).mono s2.g s2.m))
    | _ => exact h.elim
  | _ => cases dy <;> exact h.elim
def eNeg (f : En → M D) : En → M D := fun ρ => (f ρ).bind fun d => match d with
  | .int i => M.pure (.int (-i))
  | _ => M.bad
theorem je_neg (ha : JE X E H0 f a) : JE X E H0 (eNeg f) (.UnaryOp .USub a pos) := PE.imp (pe_un un_neg ha) fun σ H Q ⟨G, μ, st, ρ, w, er, q⟩ =>
  ⟨G, μ, st, ρ, w, er, Post.bind q fun d st1 x H1 G1 μ1 w1 s1 r1 q1 => by
    cases r1 with
    | int i => exact ⟨i, rfl, q1 _ _ _ _ w1 .refl (.int _)⟩
    | _ => exact q1.elim⟩
/-! ### len -/
def lenM (x : D) : M D := match x with
  | .str s => (line s.length).bind fun _ => M.pure (.int s.length)
  | x => (opt (seqD x)).bind fun ds => M.pure (.int ds.length)
theorem c_len : C1J X E (fun xs H Q => ∃ x n, xs = [x] ∧ LenV X.K x H n ∧ Q (.int n) H) lenM := fun H G μ st x dx Q w rx h => by
  have gen : ∀ {dx : D}, BRep X.K H G μ x dx → Post X.w X.K X.mg E (rRep X.K) H G μ ((opt (seqD dx)).bind (fun ds => M.pure (.int ds.length)) st) Q → ∃ x' n, [x] = [x'] ∧ LenV X.K x' H n ∧ Q (.int n) H := fun rx h => by
    obtain ⟨ds, hs, h⟩ := Post.opt h
    obtain ⟨p, vs, rfl, hq, r⟩ := rx.seq w.imm hs
    refine ⟨_, vs.length, rfl, hq.imp (fun h => ⟨vs, h, rfl⟩) (fun h => ⟨vs, h, rfl⟩), ?_⟩
    rw [RepL.length r]
    exact h _ _ _ _ w .refl (.int _)
  cases dx with
  | str s =>
    obtain ⟨c, h⟩ := Post.line (X := X) h
    cases rx.str
    exact ⟨_, s.length, rfl, ⟨c, rfl⟩, h _ _ _ _ w .refl (.int _)⟩
  | _ => exact gen rx h
/-! ### subscripts -/
def ixM (x y : D) : M D := match y with
  | .int i => (match x with
    | .str s => (line s.length).bind fun _ => (opt (atI s.cps.toList i)).bind fun c => M.pure (.str ⟨#[c]⟩)
    | x => (opt (seqD x)).bind fun ds => opt (atI ds i))
  | _ => M.bad
theorem RepL.atI {K : PySem.W.Frag} {G : Hp} {μ : Mu} {vs : List V} {ds : List D} {i : Int} {d : D} (r : RepL K G μ vs ds) (h : L2.atI ds i = some d) : ∃ v, L2.atI vs i = some v ∧ Rep K G μ v d := by
  unfold L2.atI at h ⊢
  rw [RepL.length r]
  cases e : ixN ds.length i with
  | none => rw [e] at h; cases h
  | some j =>
    rw [e] at h
    obtain ⟨v, h1, h2⟩ := r.get (i := j) h
    exact ⟨v, h1, h2⟩
theorem o_ix : OpJ X E (rIx X.K) ixM := fun H G μ st x y dx dy Q w rx ry h => by
  cases dy with
  | int i =>
    cases ry.int
    have gen : ∀ {dx : D}, BRep X.K H G μ x dx → Post X.w X.K X.mg E (rRep X.K) H G μ ((opt (seqD dx)).bind (fun ds => opt (atI ds i)) st) Q → rIx X.K x (.int i) H Q := fun rx h => by
      obtain ⟨ds, hs, h⟩ := Post.opt h
      obtain ⟨p, vs, rfl, hq, r⟩ := rx.seq w.imm hs
      cases e : L2.atI ds i with
      | none => rw [e] at h; exact h.elim
      | some d =>
        rw [e] at h
        obtain ⟨v, h1, h2⟩ := r.atI e
        rcases hq with hq | hq
        · exact .inl ⟨p, vs, i, v, rfl, rfl, hq, h1, h _ _ _ _ w .refl h2⟩
        · exact .inr (.inl ⟨p, vs, i, v, rfl, rfl, hq, h1, h _ _ _ _ w .refl h2⟩)
    cases dx with
    | str s =>
      obtain ⟨c, h⟩ := Post.line (X := X) h
      obtain ⟨k, hk, h⟩ := Post.opt h
      cases rx.str
      exact .inr (.inr ⟨s, i, k, rfl, rfl, c, hk, h _ _ _ _ w .refl (.str _)⟩)
    | _ => exact gen rx h
  | _ => exact h.elim
/-! ### slices -/
def cutD (ds : List D) (lo hi : Option Int) : List D := (ds.drop (HT.sIx ds.length 0 lo)).take (HT.sIx ds.length ds.length hi - HT.sIx ds.length 0 lo)
theorem RepL.cut {K : PySem.W.Frag} {G : Hp} {μ : Mu} {vs : List V} {ds : List D} (r : RepL K G μ vs ds) (lo hi : Option Int) : RepL K G μ (cutV vs lo hi) (cutD ds lo hi) := by
  unfold cutV cutD
  rw [RepL.length r]
  exact (r.drop _).take _
/-- a part of a slice -/
def oNo : En → M (Option Int) := fun _ => M.pure none
def oSo (f : En → M D) : En → M (Option Int) := fun ρ => (f ρ).bind fun d => match d with
  | .int i => M.pure (some i)
  | _ => M.bad
def rEq {α : Type} : RR α α := ⟨fun _ _ _ _ v d => v = d, fun _ h => h⟩
def JO (X : Cx) (E : XK) (H0 : Hp) (f : En → M (Option Int)) (e : Option Expr) : Prop := PO X e (Se X E H0 rEq f)
theorem PO.imp {o : Option Expr} {t t' : TO} (h : PO X o t) (q : ∀ σ H Q, t' σ H Q → t σ H Q) : PO X o t' := ⟨fun pins s σ H Q I x => h.run pins s σ H Q I (q _ _ _ x)⟩
theorem jo_no : JO X E H0 oNo none := PO.imp po_none fun σ H Q ⟨G, μ, st, ρ, w, er, q⟩ => q none H G μ w .refl rfl
theorem jo_so (ha : JE X E H0 f e) : JO X E H0 (oSo f) (some e) := PO.imp (po_some ha) fun σ H Q ⟨G, μ, st, ρ, w, er, q⟩ =>
  ⟨G, μ, st, ρ, w, er, Post.bind q fun d st1 x H1 G1 μ1 w1 s1 r1 q1 => by
    cases r1 with
    | int i => exact ⟨i, rfl, q1 _ _ _ _ w1 .refl rfl⟩
    | _ => exact q1.elim⟩
/-- x[lo:hi] of a tuple, a text, a list -/
def slM (x : D) (lo hi : Option Int) : M D := match x with
  | .str s => (line s.length).bind fun _ => M.pure (.str (cutS s lo hi))
  | .tup ds => M.pure (.tup (cutD ds lo hi))
  | .lst ds => M.pure (.lst (cutD ds lo hi))
  | .frz ds => M.pure (.lst (cutD ds lo hi))
  | _ => M.bad
def eSl (f : En → M D) (lo hi : En → M (Option Int)) : En → M D := fun ρ => (f ρ).bind fun x => (lo ρ).bind fun l => (hi ρ).bind fun h => slM x l h
def rSlB (K : PySem.W.Frag) : V → Option Int → Option Int → Hp → VK → Prop := fun x lo hi H Q => rSlS x lo hi H Q ∨ rSlA K x lo hi H Q ∨ rSlL K x lo hi H Q
theorem sl_any : SlR X (rSlB X.K) := sl_str.or (sl_tupA.or sl_list)
theorem je_slice {lo hi : Option Expr} {fl fh : En → M (Option Int)} {p2 : Pos} (ha : JB X E H0 f e) (hl : JO X E H0 fl lo) (hh : JO X E H0 fh hi) : JE X E H0 (eSl f fl fh) (.Subscript e (.Slice lo hi none p2) pos) := by
  refine PE.imp (pe_slice sl_any ha hl hh) fun σ H Q ⟨G, μ, st, ρ, w, er, q⟩ => ?_
  refine ⟨G, μ, st, ρ, w, er, Post.bind q fun dx st1 x H1 G1 μ1 w1 s1 r1 q1 => ?_⟩
  refine ⟨G1, μ1, st1, ρ, w1, er.step s1, Post.bind q1 fun l st2 l' H2 G2 μ2 w2 s2 r2 q2 => ?_⟩
  refine ⟨G2, μ2, st2, ρ, w2, (er.step s1).step s2, Post.bind q2 fun u st3 u' H3 G3 μ3 w3 s3 r3 q3 => ?_⟩
  cases r2
  cases r3
  have rx := ((r1.step s2).step s3).weak
  have mkL : ∀ {a : Addr} {vs : List V} {ds : List D}, x = .ref a → SqL X.K H3 a vs → RepL X.K G3 μ3 vs ds → Post X.w X.K X.mg E (rRep X.K) H3 G3 μ3 (M.pure (.lst (cutD ds l u)) st3) Q → rSlB X.K x l u H3 Q := fun {a vs ds} e h r q => by
    subst e
    refine .inr (.inr ⟨a, vs, rfl, h, fun p hp => ?_⟩)
    obtain ⟨w4, s4⟩ := w3.new (o := .lst (cutV vs l u)) hp
    exact q _ _ _ _ w4 s4 (.lst upd_same ((r.cut l u).mono s4.g s4.m))
  cases dx with
  | str s =>
    obtain ⟨c, q3⟩ := Post.line (X := X) q3
    cases rx.str
    exact .inl ⟨s, rfl, c, q3 _ _ _ _ w3 .refl (.str _)⟩
  | tup ds =>
    obtain ⟨a, vs, rfl, h1, r⟩ := rx.tup w3.imm
    refine .inr (.inl ⟨a, vs, rfl, w3.imm.sqT h1, fun hw => ?_, fun _ p hp => ?_⟩)
    · have e : cutD ds l u = ds := by
        unfold cutD
        rw [← RepL.length r, hw.1, hw.2, List.drop_zero, Nat.sub_zero, RepL.length r, List.take_length]
      have q4 : Post X.w X.K X.mg E (rRep X.K) H3 G3 μ3 (M.pure (.tup (cutD ds l u)) st3) Q := q3
      rw [e] at q4
      exact q4 _ _ _ _ w3 .refl (.tup h1 r)
    · obtain ⟨w4, s4⟩ := w3.new (o := .tup (cutV vs l u)) hp
      exact q3 _ _ _ _ w4 s4 (.tup (.inl (.inl upd_same)) ((r.cut l u).mono s4.g s4.m))
  | lst ds =>
    obtain ⟨a, vs, rfl, h1, r⟩ := rx.lst w3.imm
    exact mkL rfl (.inl (.inl h1)) r q3
  | frz ds =>
    rcases rx with rx | ⟨_, _, _, _, e, _⟩
    · cases rx with
      | frz h1 r => exact mkL rfl (w3.imm.sqL h1) r q3
    · cases e
  | _ => exact q3.elim
/-! ### isinstance -/
def tyN : D → Option String
  | .non => some "NoneType"
  | .bl _ => some "bool"
  | .int _ => some "int"
  | .str _ => some "str"
  | .tup _ => some "tuple"
  | .lst _ => some "list"
  | .frz _ => some "list"
  | .ref _ => none
def isiM (T : String) (d : D) : M D := match tyN d with
  | some t => (match kitB t T with
    | some b => PL.bl b
    | none => M.bad)
  | none => M.bad
theorem Rep.ty {K : PySem.W.Frag} {H G : Hp} {μ : Mu} {v : V} {d : D} {t : String} (s : Sub G H) (r : Rep K G μ v d) (h : tyN d = some t) : TyX K H v (.type t) := by
  cases r with
  | non => cases h; exact .base .non
  | bl b => cases h; exact .base (.bl b)
  | int b => cases h; exact .base (.int b)
  | str b => cases h; exact .base (.str b)
  | tup h1 _ =>
    cases h
    rcases s.sqT h1 with (q | ⟨o, q⟩) | ⟨o, its, n, q, c, _⟩
    · exact .base (.tup q)
    · exact .fTuple q
    · exact .kTuple q c
  | lst h1 _ => cases h; exact .base (.lst (s _ _ h1))
  | frz h1 _ =>
    cases h
    rcases s.sqL h1 with (q | ⟨o, q⟩) | ⟨o, its, n, q, c, _⟩
    · exact .base (.lst q)
    · exact .base (.frz q)
    · exact .kList q c
  | ref _ => cases h
theorem je_isi {T : String} {x : Str} {pI pT : Pos} (hg : Gl X "isinstance") (hm : X.mg "isinstance" = none) (hgT : Gl X x) (hmT : X.mg x = none) (hvT : bootBuiltins x = some (.type T)) (ha : JE X E H0 f e) (hn : x ≠ "__name__" := by decide) (hdb : (x == ("__debug__" : Str)) = false := by decide)
    (hs : starEach [e, .Name x pT] X.env = (false, eval e X.env) :: starEach [.Name x pT] X.env := by rfl) (hs2 : starEach [.Name x pT] X.env = (false, eval (.Name x pT) X.env) :: starEach [] X.env := by rfl) (hpl : (backTo pos (starEach [.Name x pT] X.env)).any (·.1) = false := by rfl) :
    JE X E H0 (e1 (isiM T) f) (.Call (.Name "isinstance" pI) [e, .Name x pT] [] pos) := by
  refine PE.imp (pe_callB call_isi hg hm (by decide +kernel) (pa_cons ha (pa_cons (pe_bltn (v := .ty T) hgT hmT hvT rfl hn hdb) pa_nil hs2) hs) (by decide) (by decide) hs hpl) fun σ H Q ⟨G, μ, st, ρ, w, er, q⟩ => ?_
  refine ⟨G, μ, st, ρ, w, er, Post.bind q fun d st1 x H1 G1 μ1 w1 s1 r1 q1 => ?_⟩
  unfold isiM at q1
  cases ht : tyN d with
  | none => rw [ht] at q1; exact q1.elim
  | some t =>
    rw [ht] at q1
    cases hb : kitB t T with
    | none => simp only [hb] at q1; exact q1.elim
    | some b =>
      simp only [hb] at q1
      exact ⟨x, .ty T, .type t, .type T, b, rfl, .ty T, r1.ty w1.imm ht, kit_ty hb, q1.bl w1⟩
/-! ### all, any -/
def bools : List D → Option (List Bool)
  | [] => some []
  | .bl b :: ds => (bools ds).map (b :: ·)
  | _ => none
theorem bools_rep {K : PySem.W.Frag} {G : Hp} {μ : Mu} : ∀ {vs : List V} {ds : List D} {bs : List Bool}, RepL K G μ vs ds → bools ds = some bs → vs = bs.map V.bl
  | _, [], _, .nil, h => by unfold bools at h; cases h; rfl
  | _, _ :: ds, _, .cons (.bl b) r, h => by
    unfold bools at h
    cases e : bools ds with
    | none => rw [e] at h; cases h
    | some bs => rw [e] at h; cases h; rw [bools_rep r e]; rfl
  | _, _ :: _, _, .cons .non _, h => by unfold bools at h; cases h
  | _, _ :: _, _, .cons (.int _) _, h => by unfold bools at h; cases h
  | _, _ :: _, _, .cons (.str _) _, h => by unfold bools at h; cases h
  | _, _ :: _, _, .cons (.tup _ _) _, h => by unfold bools at h; cases h
  | _, _ :: _, _, .cons (.lst _ _) _, h => by unfold bools at h; cases h
  | _, _ :: _, _, .cons (.frz _ _) _, h => by unfold bools at h; cases h
  | _, _ :: _, _, .cons (.ref _) _, h => by unfold bools at h; cases h
def allM (d : D) : M D := match d with
  | .lst ds => (opt (bools ds)).bind fun bs => PL.bl (bs.all id)
  | _ => M.bad
def anyM (d : D) : M D := match d with
  | .lst ds => (opt (bools ds)).bind fun bs => PL.bl (bs.any id)
  | _ => M.bad
theorem c_all : C1J X E (rAll X.K) allM := fun H G μ st x dx Q w rx h => by
  cases dx with
  | lst ds =>
    obtain ⟨bs, hb, h⟩ := Post.opt h
    obtain ⟨p, vs, rfl, hq, r⟩ := rx.lst w.imm
    have e := bools_rep r hb
    subst e
    exact ⟨p, bs, rfl, .inl (.inl hq), h.bl w⟩
  | _ => exact h.elim
theorem c_any : C1J X E (rAny X.K) anyM := fun H G μ st x dx Q w rx h => by
  cases dx with
  | lst ds =>
    obtain ⟨bs, hb, h⟩ := Post.opt h
    obtain ⟨p, vs, rfl, hq, r⟩ := rx.lst w.imm
    have e := bools_rep r hb
    subst e
    exact ⟨p, bs, rfl, .inl (.inl hq), h.bl w⟩
  | _ => exact h.elim
end
end PL

set_option linter.all false
set_option maxRecDepth 100000
set_option maxHeartbeats 4000000
/-! PL9: short words for a printed text: own defs by name, slots, tests; append and extend of a slot's list. -/
namespace PL
open PySem PySem.Spec L2
variable {wW : World}

/-- a def of the text that may be called by its name -/
structure Own (P : Program) (w : World) (K : PySem.W.Frag) (mg : Str → Option Value) (base : Heap) (k : Nat) (x : Str) (ps : List Str) (sem : List D → M D) : Prop where
  ex : ∃ fa fd, FnOk P w K mg base (L2.CX P w) k fa fd ps (SpOf w K mg ps.length sem) ∧ mg x = some (.ref fa) ∧ PySem.W.keepIn K (.ref fa) = true ∧ (∀ us : List Value, us.length = ps.length → bindArgs fd ⟨us, []⟩ = pure (ps.zip us)) ∧ ∃ oc od sl, K.lookup fa = some ⟨oc, od, .func fd, sl⟩
/-- .. as it stands behind the top -/
structure Fn0 (K : PySem.W.Frag) (mg : Str → Option Value) (x : Str) (st : Stmt) (ps : List Str) : Prop where
  ex : ∃ fa fd, Fun K x x st fa fd ∧ mg x = some (.ref fa) ∧ ∀ us : List Value, us.length = ps.length → bindArgs fd ⟨us, []⟩ = pure (ps.zip us)
theorem Own.mono {P : Program} {w : World} {K : PySem.W.Frag} {mg : Str → Option Value} {base : Heap} {j k : Nat} {x : Str} {ps : List Str} {sem : List D → M D} (o : Own P w K mg base j x ps sem) (h : j ≤ k) : Own P w K mg base k x ps sem :=
  let ⟨fa, fd, F, m, kp, b⟩ := o.ex; ⟨fa, fd, F.mono h, m, kp, b⟩
theorem Own.sem {P : Program} {w : World} {K : PySem.W.Frag} {mg : Str → Option Value} {base : Heap} {k : Nat} {x : Str} {ps : List Str} {s1 s2 : List D → M D} (o : Own P w K mg base k x ps s1) (h : ∀ ds, ds.length = ps.length → s1 ds = s2 ds) : Own P w K mg base k x ps s2 :=
  let ⟨fa, fd, F, m, kp, b⟩ := o.ex; ⟨fa, fd, FnOk.sem F h, m, kp, b⟩
theorem Fun.lk {K : PySem.W.Frag} {x y : Str} {st : Stmt} {fa : Addr} {fd : FuncData} (F : L2.Fun K x y st fa fd) : ∃ oc od sl, K.lookup fa = some ⟨oc, od, .func fd, sl⟩ := let ⟨oc, od, _, _, _, _, _, _, sl, _, l, _⟩ := F.ex; ⟨oc, od, sl, l⟩
theorem own_def {P : Program} {w : World} {K : PySem.W.Frag} {mg : Str → Option Value} {base : Heap} {k : Nat} {x : Str} {st : Stmt} {N ps : List Str} {f : En → M (Fl × En)} (F : Fn0 K mg x st ps) (S : FnScope N ps (defScope st))
    (body : ∀ (fa : Addr) (cdv : Value) (A : Around) (outer : List Env) (s : Shared) (H G : Hp) (μ : Mu) (E : XK), Room k (A.deeper (PyProof.Rows.envOfC x (defScope st) s.heap.objs.size fa cdv)) →
      JSs (cxOf (L2.CX P w) P w K mg base N x (defScope st) fa cdv A outer s H E) E ⟨H, G, μ⟩ f (defBody st)) :
    Own P w K mg base (k + 1) x ps (runB N.length f) := by
  obtain ⟨fa, fd, F, m, b⟩ := F.ex
  exact ⟨fa, fd, def_ok F S (body fa), m, F.kp, b, Fun.lk F⟩

/-- a constant of the module -/
structure Cn (mg : Str → Option Value) (K : PySem.W.Frag) (x : Str) (d : D) : Prop where
  ex : ∃ v u, mg x = some u ∧ RelV v u ∧ ∀ G μ, Rep K G μ v d
theorem Cn.je {X : Cx} {E : XK} {H0 : Hp} {x : Str} {d : D} {pos : Pos} (C : Cn X.mg X.K x d) (hg : Gl X x) (hd : (x == ("__debug__" : Str)) = false := by decide) : JE X E H0 (eC d) (.Name x pos) := by
  obtain ⟨v, u, m, r, q⟩ := C.ex
  exact je_glob hg m r q hd
theorem hv_of {A : Around} {k : Nat} (hr : Room k A) : A.units + 65 < cLine := by have := hr.un; omega
section
variable {X : Cx} {E : XK} {H0 : Hp} {e a b c : Expr} {f g h : En → M D} {es : List Expr} {pos p p0 : Pos} {x : Str} {ga : En → M (List D)}
theorem jv (i : Nat) {x : Str} {pos : Pos} (hN : X.N[i]? = some x := by rfl) (hv : Vis X.env.scope x := by first | exact Or.inl rfl | exact Or.inr (Or.inl rfl) | exact Or.inr (Or.inr rfl)) (hd : (x == ("__debug__" : Str)) = false := by decide)
    (hcd : (x == ("__classdict__" : Str)) = false := by decide) : JE X E H0 (eVar i) (.Name x pos) := je_var hN hv hd hcd
theorem jw (i : Nat) {x : Str} {pos : Pos} (hN : X.N[i]? = some x := by rfl) (hv : Vis X.env.scope x := by first | exact Or.inl rfl | exact Or.inr (Or.inl rfl) | exact Or.inr (Or.inr rfl)) (hd : (x == ("__debug__" : Str)) = false := by decide)
    (hcd : (x == ("__classdict__" : Str)) = false := by decide) : JB X E H0 (eLook i) (.Name x pos) := jb_look hN hv hd hcd
theorem jcall {k n : Nat} {ps : List Str} {sem : List D → M D} (C : Own X.prog X.w X.K X.mg X.base k x ps sem) (hr : Room k X.A) (hx : Passes (L2.CX X.prog X.w) X E) (ha : JA X E H0 ga (e :: es)) (hg : Gl X x := by rfl) (hdb : (x == ("__debug__" : Str)) = false := by decide)
    (he : starEach (e :: es) X.env = (false, eval e X.env) :: starEach es X.env := by rfl) (hpl : (backTo pos (starEach es X.env)).any (·.1) = false := by rfl) (hn : ps.length = n := by rfl) : JE X E H0 (eCall n sem ga) (.Call (.Name x p) (e :: es) [] pos) := by
  subst hn
  obtain ⟨fa, fd, F, m, kp, b, _⟩ := C.ex
  exact je_call F hr hg m kp (.all b) hx ha hdb he hpl
theorem jcall0 {k n : Nat} {ps : List Str} {sem : List D → M D} (C : Own X.prog X.w X.K X.mg X.base k x ps sem) (hr : Room k X.A) (hx : Passes (L2.CX X.prog X.w) X E) (hg : Gl X x := by rfl) (hdb : (x == ("__debug__" : Str)) = false := by decide) (hn : ps.length = n := by rfl) : JE X E H0 (eCall n sem aNil) (.Call (.Name x p) [] [] pos) := by
  subst hn
  obtain ⟨fa, fd, F, m, kp, b, _⟩ := C.ex
  exact je_call0 F hr hg m kp (.all b) hx hdb
/-- in a block nothing leaves -/
theorem px : Passes (L2.CX X.prog X.w) X xNo := passL
/-- a def's body lets out what its caller takes -/
theorem pd (hs : X.stack = X.env :: X.outer) (hf : X.env.frame = some X.env.locals) (hex : X.ex = []) {E₁ : Value → Shared → Prop}
    (hx : X.xe = fun e s' => wpAny (model X.prog X.w) X.A (leaving X.env e) (fun _ s'' => L2.CX X.prog X.w X.outer X.H_0 X.s_0 E e s'') E₁ s') : Passes (L2.CX X.prog X.w) X E := passes_call (takes_of hs hf hex hx) fun _ _ _ _ h => h

/-! ### append, extend -/
variable {Φ : Ent} {i : Nat}
def sApp (i : Nat) (f : En → M D) : En → M (Fl × En) := fun ρ => match ρ[i]? with
  | some (.own ds) => (f ρ).bind fun d => (line (ds.length + 1)).bind fun _ => put i (.own (ds ++ [d])) ρ
  | _ => M.bad
def sExt (i : Nat) (f : En → M D) : En → M (Fl × En) := fun ρ => match ρ[i]? with
  | some (.own ds) => (f ρ).bind fun d => match d with
    | .lst es => (line (ds.length + es.length)).bind fun _ => put i (.own (ds ++ es)) ρ
    | _ => M.bad
  | _ => M.bad
theorem ER.upd {K : PySem.W.Frag} {H G H0 : Hp} {μ : Mu} {ρ : En} {σ : L2.St} (er : ER K H G μ H0 ρ σ) {ds : List D} (hi : ρ[i]? = some (.own ds)) {a : Addr} (ha : σ[i]? = some (some (.ref a))) {ws : List V} {es : List D} (r : RepL K G μ ws es)
    (g : G a = none) (n : ∀ k, μ k ≠ some a) (h0 : H0 a = none) : ER K (upd H a (.lst ws)) G μ H0 (ρ.set i (.own es)) σ where
  val := fun j d q => by
    have hl := (List.getElem?_eq_some_iff.mp hi).1
    by_cases hj : i = j
    · subst hj; rw [List.getElem?_set_self hl] at q; cases q
    · rw [List.getElem?_set_ne hj] at q; exact er.val j d q
  own := fun j ds' q => by
    have hl := (List.getElem?_eq_some_iff.mp hi).1
    by_cases hj : i = j
    · subst hj
      rw [List.getElem?_set_self hl] at q
      cases q
      exact ⟨a, ws, ha, upd_same, r, g, n, h0⟩
    · rw [List.getElem?_set_ne hj] at q
      obtain ⟨b, us, h1, h2, h3⟩ := er.own j ds' q
      have ne : b ≠ a := fun z => hj (er.inj i j ds ds' a hi q ha (by rw [h1, z]))
      exact ⟨b, us, h1, by rw [upd_ne ne]; exact h2, h3⟩
  inj := fun j k ds' es' b q1 q2 z1 z2 => by
    have hl := (List.getElem?_eq_some_iff.mp hi).1
    have back : ∀ {j : Nat} {es' : List D}, (ρ.set i (Slot.own es))[j]? = some (.own es') → ∃ fs, ρ[j]? = some (.own fs) := fun {j es'} q => by
      by_cases hj : i = j
      · subst hj; exact ⟨_, hi⟩
      · rw [List.getElem?_set_ne hj] at q; exact ⟨_, q⟩
    obtain ⟨_, b1⟩ := back q1
    obtain ⟨_, b2⟩ := back q2
    exact er.inj j k _ _ b b1 b2 z1 z2
  len := by rw [List.length_set]; exact er.len
  old := fun b o h => by
    by_cases hb : b = a
    · subst hb; exact ⟨_, upd_same⟩
    · obtain ⟨o', h'⟩ := er.old b o h; exact ⟨o', by rw [upd_ne hb]; exact h'⟩
theorem upd_end {Dn : Ends} {ρ : En} {σ : L2.St} {H G : Hp} {μ : Mu} {st : Sto} {ds es : List D} (w : Wd X.w X.K H G μ st) (er : ER X.K H G μ Φ.H ρ σ) (s : Stp Φ.H Φ.G Φ.μ H G μ) (hi : ρ[i]? = some (.own ds)) (q : PostS X E Φ Dn (put i (.own es) ρ st)) :
    ∃ a vs, σ[i]? = some (some (.ref a)) ∧ H a = some (.lst vs) ∧ RepL X.K G μ vs ds ∧ ∀ ws, RepL X.K G μ ws es → Dn.nx σ (upd H a (.lst ws)) := by
  obtain ⟨a, vs, h1, h2, h3, h4, h5, h6⟩ := er.own i ds hi
  refine ⟨a, vs, h1, h2, h3, fun ws r => ?_⟩
  unfold put at q
  have hl := (List.getElem?_eq_some_iff.mp hi).1
  rw [if_pos hl] at q
  exact q.nx (w.over h4 h5) (er.upd hi h1 r h4 h5 h6) (s.over h6)
theorem PostS.line {n : Nat} {m : M (Fl × En)} {st : Sto} {Dn : Ends} (p : PostS X E Φ Dn ((line n).bind (fun _ => m) st)) : n ≤ sizeLine ∧ PostS X E Φ Dn (m st) := by
  unfold M.bind PL.line at p
  by_cases h : n ≤ sizeLine
  · simp only [if_pos h] at p; exact ⟨h, p⟩
  · simp only [if_neg h] at p; exact p.elim
theorem js_app {x : Str} {p1 p2 pc ps : Pos} (hN : X.N[i]? = some x) (hv : Vis X.env.scope x) (he : JE X E Φ.H f e) (hd : (x == ("__debug__" : Str)) = false := by decide) (hcd : (x == ("__classdict__" : Str)) = false := by decide)
    (hb : ∀ {to : TE} {t : TA}, PE X (.Name x p1) to → PA X [e] t → PE X (.Call (.Attribute (.Name x p1) "append" p2) [e] [] pc) (tBM X.K "list" rAppend to t)) (ha : starEach [e] X.env = (false, eval e X.env) :: starEach [] X.env := by rfl)
    (hs : swapsWith (.Call (.Attribute (.Name x p1) "append" p2) [e] [] pc) none ps.line X.env = pure false := by rfl) : JS X E Φ (sApp i f) (.Expr (.Call (.Attribute (.Name x p1) "append" p2) [e] [] pc) ps) := by
  refine PS.imp (ps_expr (hb (pe_var hN hv hd hcd) (pa_one he ha)) hs) fun Dn σ H ⟨G, μ, st, ρ, w, er, s, q⟩ => ?_
  unfold sApp at q
  cases hi : ρ[i]? with
  | none => rw [hi] at q; exact q.elim
  | some x0 =>
   rw [hi] at q
   cases x0 with
   | no => exact q.elim
   | val d => exact q.elim
   | own ds =>
    obtain ⟨a0, vs0, h1, h2, h3, h4, h5, h6⟩ := er.own i ds hi
    refine ⟨_, h1, .inl ⟨rfl, _, .inl (.inl h2)⟩, G, μ, st, ρ, w, er, q.bind s fun d st1 v H1 G1 μ1 w1 s1 t1 r1 q1 => ?_⟩
    obtain ⟨hz, q2⟩ := q1.line
    obtain ⟨a, vs, k1, k2, k3, fin⟩ := upd_end w1 (er.step s1) t1 hi q2
    rw [h1] at k1; cases k1
    refine ⟨_, vs, v, rfl, rfl, k2, by rw [RepL.length k3]; omega, fin _ (k3.append (.cons r1 .nil))⟩
theorem js_ext {x : Str} {p1 p2 pc ps : Pos} (hN : X.N[i]? = some x) (hv : Vis X.env.scope x) (he : JE X E Φ.H f e) (hd : (x == ("__debug__" : Str)) = false := by decide) (hcd : (x == ("__classdict__" : Str)) = false := by decide)
    (hb : ∀ {to : TE} {t : TA}, PE X (.Name x p1) to → PA X [e] t → PE X (.Call (.Attribute (.Name x p1) "extend" p2) [e] [] pc) (tBM X.K "list" rExtend to t)) (ha : starEach [e] X.env = (false, eval e X.env) :: starEach [] X.env := by rfl)
    (hs : swapsWith (.Call (.Attribute (.Name x p1) "extend" p2) [e] [] pc) none ps.line X.env = pure false := by rfl) : JS X E Φ (sExt i f) (.Expr (.Call (.Attribute (.Name x p1) "extend" p2) [e] [] pc) ps) := by
  refine PS.imp (ps_expr (hb (pe_var hN hv hd hcd) (pa_one he ha)) hs) fun Dn σ H ⟨G, μ, st, ρ, w, er, s, q⟩ => ?_
  unfold sExt at q
  cases hi : ρ[i]? with
  | none => rw [hi] at q; exact q.elim
  | some x0 =>
   rw [hi] at q
   cases x0 with
   | no => exact q.elim
   | val d => exact q.elim
   | own ds =>
    obtain ⟨a0, vs0, h1, h2, h3, h4, h5, h6⟩ := er.own i ds hi
    refine ⟨_, h1, .inl ⟨rfl, _, .inl (.inl h2)⟩, G, μ, st, ρ, w, er, q.bind s fun d st1 v H1 G1 μ1 w1 s1 t1 r1 q1 => ?_⟩
    cases r1 with
    | lst e1 e2 =>
      obtain ⟨hz, q2⟩ := q1.line
      obtain ⟨a, vs, k1, k2, k3, fin⟩ := upd_end w1 (er.step s1) t1 hi q2
      rw [h1] at k1; cases k1
      exact ⟨_, _, vs, _, rfl, rfl, k2, w1.imm _ _ e1, by rw [RepL.length k3, RepL.length e2]; exact hz, fin _ (k3.append e2)⟩
    | _ => exact q1.elim
end
end PL

set_option linter.all false
set_option maxRecDepth 100000
set_option maxHeartbeats 4000000
/-! PL10: unpacking, pairs of assignments, is None, int, str, tuple, list, join, split, f-strings, enumerate. -/
namespace PL
open PySem PySem.Spec L2
variable {wW : World}
section
variable {X : Cx} {E : XK} {H0 : Hp} {e a b c tg : Expr} {f g h : En → M D} {es : List Expr} {pos p p0 : Pos} {x : Str} {ga : En → M (List D)} {Φ : Ent} {pt : Pt}
/-! ### unpacking -/
def sUn (pt : Pt) (f : En → M D) : En → M (Fl × En) := fun ρ => (f ρ).bind fun d => (opt (pt.set d ρ)).bind fun r => M.pure (.nx, r)
theorem js_un (he : JE X E Φ.H f e) (hg : PG X tg (pt.g X.K)) (hs : swapsWithSole [tg] e pos.line X.env = pure false := by rfl) (hw : swappedStores [tg] e X.env = pure none := by rfl)
    (h1 : (assignEach [tg] X.env).map (·.2) = [assign tg X.env] := by rfl) : JS X E Φ (sUn pt f) (.Assign [tg] e pos) := PS.imp (ps_asg he hg hs hw h1) fun Dn σ H ⟨G, μ, st, ρ, w, er, s, q⟩ =>
  ⟨G, μ, st, ρ, w, er, q.bind s fun d st' v H' G' μ' w' s' t' r q => by
    obtain ⟨ρ2, hset, q⟩ := PostS.opt q
    exact Pt.ok hset w' r (er.step s') fun σ2 er2 _ => q.nx w' er2 t'⟩
/-! ### a, b = x, y -/
def sPar (i j : Nat) (f g : En → M D) : En → M (Fl × En) := fun ρ => (f ρ).bind fun d => (g ρ).bind fun e => (opt (setAll [i, j] [d, e] ρ)).bind fun r => M.pure (.nx, r)
def sPar3 (i j k : Nat) (f g h : En → M D) : En → M (Fl × En) := fun ρ => (f ρ).bind fun d => (g ρ).bind fun e => (h ρ).bind fun u => (opt (setAll [i, j, k] [d, e, u] ρ)).bind fun r => M.pure (.nx, r)
/-- .. the second a list that is made -/
def sParO (i j : Nat) (f : En → M D) (g : En → M (List D)) : En → M (Fl × En) := fun ρ => (f ρ).bind fun d => (g ρ).bind fun e => (opt (setAll [i] [d] ρ)).bind fun r => put j (.own e) r
theorem setAll1 {i : Nat} {d : D} {ρ ρ' : En} (h : setAll [i] [d] ρ = some ρ') : i < ρ.length ∧ ρ' = ρ.set i (.val d) := by
  unfold setAll at h
  by_cases hi : i < ρ.length
  · rw [if_pos hi] at h; unfold setAll at h; cases h; exact ⟨hi, rfl⟩
  · rw [if_neg hi] at h; cases h
theorem setAllC {i : Nat} {d : D} {is : List Nat} {ds : List D} {ρ ρ' : En} (h : setAll (i :: is) (d :: ds) ρ = some ρ') : i < ρ.length ∧ setAll is ds (ρ.set i (.val d)) = some ρ' := by
  unfold setAll at h
  by_cases hi : i < ρ.length
  · rw [if_pos hi] at h; exact ⟨hi, h⟩
  · rw [if_neg hi] at h; cases h
section
variable {i j k : Nat} {y z : Str} {px py pz pt' : Pos} {kt k2 : Nat} {pt2 : Pos}
theorem js_par (hc : X.calm = true) (hN : X.N.Nodup) (hi : X.N[i]? = some x) (hj : X.N[j]? = some y) (ha : JE X E Φ.H f a) (hb : JE X E Φ.H g b) (hij : i ≠ j := by decide)
    (hx : X.env.scope.names.lookup x = some .local := by rfl) (hy : X.env.scope.names.lookup y = some .local := by rfl)
    (hw : swappedStores [.Tuple [.Name x px, .Name y py] kt pt'] (.Tuple [a, b] k2 pt2) X.env = pure (some [x, y]) := by rfl)
    (hs : swapsWithSole [.Tuple [.Name x px, .Name y py] kt pt'] (.Tuple [a, b] k2 pt2) pos.line X.env = pure false := by rfl)
    (h1 : starEach [a, b] X.env = (false, eval a X.env) :: starEach [b] X.env := by rfl) (h2 : starEach [b] X.env = (false, eval b X.env) :: starEach [] X.env := by rfl) :
    JS X E Φ (sPar i j f g) (.Assign [.Tuple [.Name x px, .Name y py] kt pt'] (.Tuple [a, b] k2 pt2) pos) := by
  refine PS.imp (ps_par hc hN hi hj hij hx hy (pa_cons ha (pa_cons hb pa_nil h2) h1) hw hs) fun Dn σ H ⟨G, μ, st, ρ, w, er, s, q⟩ => ?_
  refine ⟨G, μ, st, ρ, w, er, q.bind s fun d st1 v H1 G1 μ1 w1 s1 t1 r1 q1 => ⟨G1, μ1, st1, ρ, w1, er.step s1, q1.bind t1 fun e st2 u H2 G2 μ2 w2 s2 t2 r2 q2 => ?_⟩⟩
  obtain ⟨ρ2, hset, q3⟩ := PostS.opt q2
  obtain ⟨l1, hset⟩ := setAllC hset
  obtain ⟨l2, rfl⟩ := setAll1 hset
  exact ⟨v, u, rfl, q3.nx w2 (((er.step s1).step s2 |>.set l1 (r1.mono s2.g s2.m)).set l2 r2) t2⟩
theorem js_par3 (hc : X.calm = true) (hN : X.N.Nodup) (hi : X.N[i]? = some x) (hj : X.N[j]? = some y) (hk : X.N[k]? = some z) (ha : JE X E Φ.H f a) (hb : JE X E Φ.H g b) (hcc : JE X E Φ.H h c) (hij : i ≠ j := by decide) (hik : i ≠ k := by decide) (hjk : j ≠ k := by decide)
    (hx : X.env.scope.names.lookup x = some .local := by rfl) (hy : X.env.scope.names.lookup y = some .local := by rfl) (hz : X.env.scope.names.lookup z = some .local := by rfl)
    (hw : swappedStores [.Tuple [.Name x px, .Name y py, .Name z pz] kt pt'] (.Tuple [a, b, c] k2 pt2) X.env = pure (some [x, y, z]) := by rfl)
    (hs : swapsWithSole [.Tuple [.Name x px, .Name y py, .Name z pz] kt pt'] (.Tuple [a, b, c] k2 pt2) pos.line X.env = pure false := by rfl)
    (h1 : starEach [a, b, c] X.env = (false, eval a X.env) :: starEach [b, c] X.env := by rfl) (h2 : starEach [b, c] X.env = (false, eval b X.env) :: starEach [c] X.env := by rfl) (h3 : starEach [c] X.env = (false, eval c X.env) :: starEach [] X.env := by rfl) :
    JS X E Φ (sPar3 i j k f g h) (.Assign [.Tuple [.Name x px, .Name y py, .Name z pz] kt pt'] (.Tuple [a, b, c] k2 pt2) pos) := by
  refine PS.imp (L2.ps_par3 hc hN hi hj hk hij hik hjk hx hy hz (pa_cons ha (pa_cons hb (pa_cons hcc pa_nil h3) h2) h1) hw hs) fun Dn σ H ⟨G, μ, st, ρ, w, er, s, q⟩ => ?_
  refine ⟨G, μ, st, ρ, w, er, q.bind s fun d st1 v H1 G1 μ1 w1 s1 t1 r1 q1 => ⟨G1, μ1, st1, ρ, w1, er.step s1, q1.bind t1 fun e st2 u H2 G2 μ2 w2 s2 t2 r2 q2 =>
    ⟨G2, μ2, st2, ρ, w2, (er.step s1).step s2, q2.bind t2 fun e st3 u' H3 G3 μ3 w3 s3 t3 r3 q3 => ?_⟩⟩⟩
  obtain ⟨ρ2, hset, q4⟩ := PostS.opt q3
  obtain ⟨l1, hset⟩ := setAllC hset
  obtain ⟨l2, hset⟩ := setAllC hset
  obtain ⟨l3, rfl⟩ := setAll1 hset
  exact ⟨v, u, u', rfl, q4.nx w3 (((((er.step s1).step s2).step s3).set l1 ((r1.mono s2.g s2.m).mono s3.g s3.m)).set l2 (r2.mono s3.g s3.m) |>.set l3 r3) t3⟩
theorem parO_end {Dn : Ends} {gl : En → M (List D)} {ρ : En} {σ : L2.St} {H1 G1 H2 G2 : Hp} {μ1 μ2 : Mu} {st2 : Sto} {v u : V} {d : D} {ds : List D} (w2 : Wd X.w X.K H2 G2 μ2 st2) (er1 : ER X.K H1 G1 μ1 Φ.H ρ σ) (s2 : Stp H1 G1 μ1 H2 G2 μ2) (t1 : Stp Φ.H Φ.G Φ.μ H1 G1 μ1)
    (rv : Rep X.K G1 μ1 v d) (r : Fresh X.K H1 H2 G2 μ2 u ds) (q : PostS X E Φ Dn ((opt (setAll [i] [d] ρ)).bind (fun r => put j (.own ds) r) st2)) : Dn.nx ((σ.set i (some v)).set j (some u)) H2 := by
  obtain ⟨ρ2, hset, q⟩ := PostS.opt q
  obtain ⟨l1, rfl⟩ := setAll1 hset
  exact put_own q w2 (er1.set l1 rv) s2 t1 r
theorem js_parO {gl : En → M (List D)} (hc : X.calm = true) (hN : X.N.Nodup) (hi : X.N[i]? = some x) (hj : X.N[j]? = some y) (ha : JE X E Φ.H f a) (hb : JF X E Φ.H gl b) (hij : i ≠ j := by decide)
    (hx : X.env.scope.names.lookup x = some .local := by rfl) (hy : X.env.scope.names.lookup y = some .local := by rfl)
    (hw : swappedStores [.Tuple [.Name x px, .Name y py] kt pt'] (.Tuple [a, b] k2 pt2) X.env = pure (some [x, y]) := by rfl)
    (hs : swapsWithSole [.Tuple [.Name x px, .Name y py] kt pt'] (.Tuple [a, b] k2 pt2) pos.line X.env = pure false := by rfl)
    (h1 : starEach [a, b] X.env = (false, eval a X.env) :: starEach [b] X.env := by rfl) (h2 : starEach [b] X.env = (false, eval b X.env) :: starEach [] X.env := by rfl) :
    JS X E Φ (sParO i j f gl) (.Assign [.Tuple [.Name x px, .Name y py] kt pt'] (.Tuple [a, b] k2 pt2) pos) := by
  refine PS.imp (ps_par hc hN hi hj hij hx hy (pa_cons ha (pa_cons hb pa_nil h2) h1) hw hs) fun Dn σ H ⟨G, μ, st, ρ, w, er, s, q⟩ => ?_
  refine ⟨G, μ, st, ρ, w, er, q.bind s fun d st1 v H1 G1 μ1 w1 s1 t1 r1 q1 => ⟨G1, μ1, st1, ρ, w1, er.step s1, q1.bind t1 fun ds st2 u H2 G2 μ2 w2 s2 t2 r2 q2 => ?_⟩⟩
  exact ⟨v, u, rfl, parO_end (gl := gl) w2 (er.step s1) s2 t1 r1 r2 q2⟩
/-- .. where one of the names is a cell: by the pair -/
theorem js_parOC {gl : En → M (List D)} (hc : X.calm = true) (hg : PG X tg (gTup X.K 2 (gNames [i, j]))) (ha : JE X E Φ.H f a) (hb : JF X E Φ.H gl b)
    (hs : swapsWithSole [tg] (.Tuple [a, b] k2 pt2) pos.line X.env = pure false := by rfl) (hw : swappedStores [tg] (.Tuple [a, b] k2 pt2) X.env = pure none := by rfl) (h0 : (assignEach [tg] X.env).map (·.2) = [assign tg X.env] := by rfl)
    (h1 : starEach [a, b] X.env = (false, eval a X.env) :: starEach [b] X.env := by rfl) (h2 : starEach [b] X.env = (false, eval b X.env) :: starEach [] X.env := by rfl) :
    JS X E Φ (sParO i j f gl) (.Assign [tg] (.Tuple [a, b] k2 pt2) pos) := by
  refine PS.imp (ps_asg (pe_tup (pa_cons ha (pa_cons hb pa_nil h2) h1)) hg hs hw h0) fun Dn σ H ⟨G, μ, st, ρ, w, er, s, q⟩ => ?_
  refine ⟨G, μ, st, ρ, w, er, q.bind s fun d st1 v H1 G1 μ1 w1 s1 t1 r1 q1 => ⟨G1, μ1, st1, ρ, w1, er.step s1, q1.bind t1 fun ds st2 u H2 G2 μ2 w2 s2 t2 r2 q2 => ?_⟩⟩
  refine ⟨(by decide : 2 ≤ sizeLine), fun p hp => ?_⟩
  obtain ⟨w3, s3⟩ := w2.lay (o := .tup [v, u]) hp
  have r3 : Fresh X.K H1 (upd H2 p (.tup [v, u])) G2 μ2 u ds := by
    obtain ⟨l, vs, e1, e2, e3, e4, e5, e6⟩ := r2
    exact ⟨l, vs, e1, by rw [upd_ne (ne_of_none e2 hp)]; exact e2, e3, e4, e5, e6⟩
  exact ⟨p, _, rfl, .inl (.inl upd_same), rfl, v, _, rfl, u, _, rfl, rfl, parO_end (gl := gl) w3 (er.step s1) (s2.trans s3) t1 r1 r3 q2⟩
end
/-! ### is None -/
def D.isN : D → Bool
  | .non => true
  | _ => false
def isNM (d : D) : M D := PL.bl d.isN
def notNM (d : D) : M D := PL.bl (!d.isN)
theorem Rep.isN {K : PySem.W.Frag} {G : Hp} {μ : Mu} {v : V} {d : D} (r : Rep K G μ v d) : decide (v = .non) = d.isN := by
  cases r <;> simp [D.isN]
variable {k1 : Nat} {p1 : Pos}
theorem se_isN (neg : Bool) : ∀ σ H Q, Se X E H0 (rRep X.K) (e1 (fun d => PL.bl (if neg then !d.isN else d.isN)) f) σ H Q → (Se X E H0 (rRep X.K) f) σ H fun x H1 => Q (.bl (if neg then !decide (x = .non) else decide (x = .non))) H1 := fun σ H Q ⟨G, μ, st, ρ, w, er, q⟩ =>
  ⟨G, μ, st, ρ, w, er, Post.bind q fun d st1 v H1 G1 μ1 w1 s1 r1 q1 => by rw [r1.isN]; exact q1.bl w1⟩
theorem je_isN (ha : JE X E H0 f a) : JE X E H0 (e1 isNM f) (.Compare a [.Is] [.Constant .none k1 p1] pos) := PE.imp (pe_cmp (pc_isN ha)) fun σ H Q h => se_isN false σ H Q h
theorem je_notN (ha : JE X E H0 f a) : JE X E H0 (e1 notNM f) (.Compare a [.IsNot] [.Constant .none k1 p1] pos) := PE.imp (pe_cmp (pc_notN ha)) fun σ H Q h => se_isN true σ H Q h
theorem jt_isN (ha : JE X E H0 f a) : JT X E H0 (tBl (e1 isNM f)) (.Compare a [.Is] [.Constant .none k1 p1] pos) := PT.imp (pt_cmp (pc_isN ha)) fun σ H Q ⟨G, μ, st, ρ, w, er, q⟩ => by
  have e : tBl (e1 isNM f) ρ = (f ρ).bind fun d => M.pure d.isN := M.bind_assoc _ _ _
  rw [e] at q
  exact ⟨G, μ, st, ρ, w, er, Post.bind q fun d st1 v H1 G1 μ1 w1 s1 r1 q1 => ⟨d.isN, by rw [Rep.isN r1], q1 _ _ _ _ w1 .refl rfl⟩⟩
theorem jt_notN (ha : JE X E H0 f a) : JT X E H0 (tBl (e1 notNM f)) (.Compare a [.IsNot] [.Constant .none k1 p1] pos) := PT.imp (pt_cmp (pc_notN ha)) fun σ H Q ⟨G, μ, st, ρ, w, er, q⟩ => by
  have e : tBl (e1 notNM f) ρ = (f ρ).bind fun d => M.pure (!d.isN) := M.bind_assoc _ _ _
  rw [e] at q
  exact ⟨G, μ, st, ρ, w, er, Post.bind q fun d st1 v H1 G1 μ1 w1 s1 r1 q1 => ⟨!d.isN, by rw [Rep.isN r1], q1 _ _ _ _ w1 .refl rfl⟩⟩
/-! ### int, str, tuple, list -/
def intM : D → M D
  | .int i => M.pure (.int i)
  | .bl b => M.pure (.int (if b then 1 else 0))
  | .str a => guardM (decide (a.length ≤ 640)) ((opt (PySem.intText? a)).bind fun n => M.pure (.int n))
  | _ => M.bad
theorem c_int : C1J X E (fun xs H Q => ((∃ i, xs = [.int i] ∧ Q (.int i) H) ∨ ∃ k, xs = [.bl k] ∧ Q (.int (if k then 1 else 0)) H) ∨ ∃ a n, xs = [.str a] ∧ PySem.intText? a = some n ∧ a.length ≤ 640 ∧ Q (.int n) H) intM := fun H G μ st x dx Q w rx h => by
  cases dx with
  | int i => cases rx.int; exact .inl (.inl ⟨i, rfl, h _ _ _ _ w .refl (.int _)⟩)
  | bl b => cases rx.bl; exact .inl (.inr ⟨b, rfl, h _ _ _ _ w .refl (.int _)⟩)
  | str a =>
    cases rx.str
    obtain ⟨c, h⟩ := Post.guard h
    obtain ⟨n, hn, h⟩ := Post.opt h
    exact .inr ⟨a, n, rfl, hn, of_decide_eq_true c, h _ _ _ _ w .refl (.int _)⟩
  | _ => exact h.elim
theorem call_intA : CallR X (.type "int") (fun xs H Q => ((∃ i, xs = [.int i] ∧ Q (.int i) H) ∨ ∃ k, xs = [.bl k] ∧ Q (.int (if k then 1 else 0)) H) ∨ ∃ a n, xs = [.str a] ∧ PySem.intText? a = some n ∧ a.length ≤ 640 ∧ Q (.int n) H) := call_int1.or call_int_str
def strM : D → M D
  | .int i => guardM (decide (i.natAbs.log2 < 1920)) (M.pure (.str (toString i)))
  | _ => M.bad
theorem c_str : C1J X E (fun xs H Q => ∃ i, xs = [.int i] ∧ i.natAbs.log2 < 1920 ∧ Q (.str (toString i)) H) strM := fun H G μ st x dx Q w rx h => by
  cases dx with
  | int i =>
    cases rx.int
    obtain ⟨c, h⟩ := Post.guard h
    exact ⟨i, rfl, of_decide_eq_true c, h _ _ _ _ w .refl (.str _)⟩
  | _ => exact h.elim
def tupM (d : D) : M D := (opt (seqD d)).bind fun ds => M.pure (.tup ds)
theorem c_tup : C1J X E (fun xs H Q => ∃ p ys, xs = [.ref p] ∧ ((SqL X.K H p ys ∧ ∀ l, H l = none → Q (.ref l) (upd H l (.tup ys))) ∨ (SqT X.K H p ys ∧ Q (.ref p) H))) tupM := fun H G μ st x dx Q w rx h => by
  obtain ⟨ds, hs, h⟩ := Post.opt h
  have mk : ∀ {a : Addr} {vs : List V}, RepL X.K G μ vs ds → ∀ l, H l = none → Q (.ref l) (upd H l (.tup vs)) := fun r l hl => by
    obtain ⟨w2, s2⟩ := w.new (o := .tup _) hl
    exact h _ _ _ _ w2 s2 (.tup (.inl (.inl upd_same)) (r.mono s2.g s2.m))
  rcases rx with rx | ⟨a, vs, es, rfl, rfl, h1, r, _⟩
  · cases rx with
    | tup h1 r => cases hs; exact ⟨_, _, rfl, .inr ⟨w.imm.sqT h1, h _ _ _ _ w .refl (.tup h1 r)⟩⟩
    | @lst a vs es h1 r => cases hs; exact ⟨_, _, rfl, .inl ⟨.inl (.inl (w.imm _ _ h1)), mk (a := a) r⟩⟩
    | @frz a vs es h1 r => cases hs; exact ⟨_, _, rfl, .inl ⟨w.imm.sqL h1, mk (a := a) r⟩⟩
    | _ => cases hs
  · cases hs; exact ⟨a, vs, rfl, .inl ⟨.inl (.inl h1), mk (a := a) r⟩⟩
def lstM (d : D) : M D := (opt (seqD d)).bind fun ds => M.pure (.lst ds)
theorem c_lst : C1J X E (fun xs H Q => ∃ p ys, xs = [.ref p] ∧ (SqL X.K H p ys ∨ SqT X.K H p ys) ∧ ∀ l, H l = none → Q (.ref l) (upd H l (.lst ys))) lstM := fun H G μ st x dx Q w rx h => by
  obtain ⟨ds, hs, h⟩ := Post.opt h
  obtain ⟨a, vs, rfl, hq, r⟩ := rx.seq w.imm hs
  refine ⟨a, vs, rfl, hq, fun l hl => ?_⟩
  obtain ⟨w2, s2⟩ := w.new (o := .lst vs) hl
  exact h _ _ _ _ w2 s2 (.lst upd_same (r.mono s2.g s2.m))
/-! ### join, split -/
def strsD : List D → Option (List Str)
  | [] => some []
  | .str x :: ds => (strsD ds).map (x :: ·)
  | _ => none
theorem strs_rep {K : PySem.W.Frag} {G : Hp} {μ : Mu} : ∀ {vs : List V} {ds : List D} {xs : List Str}, RepL K G μ vs ds → strsD ds = some xs → vs = xs.map V.str
  | _, [], _, .nil, h => by unfold strsD at h; cases h; rfl
  | _, _ :: ds, _, .cons (.str b) r, h => by
    unfold strsD at h
    cases e : strsD ds with
    | none => rw [e] at h; cases h
    | some bs => rw [e] at h; cases h; rw [strs_rep r e]; rfl
  | _, _ :: _, _, .cons .non _, h => by unfold strsD at h; cases h
  | _, _ :: _, _, .cons (.int _) _, h => by unfold strsD at h; cases h
  | _, _ :: _, _, .cons (.bl _) _, h => by unfold strsD at h; cases h
  | _, _ :: _, _, .cons (.tup _ _) _, h => by unfold strsD at h; cases h
  | _, _ :: _, _, .cons (.lst _ _) _, h => by unfold strsD at h; cases h
  | _, _ :: _, _, .cons (.frz _ _) _, h => by unfold strsD at h; cases h
  | _, _ :: _, _, .cons (.ref _) _, h => by unfold strsD at h; cases h
theorem rep_strs {K : PySem.W.Frag} {G : Hp} {μ : Mu} : ∀ (xs : List Str), RepL K G μ (xs.map V.str) (xs.map D.str)
  | [] => .nil
  | x :: xs => .cons (.str x) (rep_strs xs)
/-- a method of a text with one argument -/
def eM1 (q : Str → D → M D) (f g : En → M D) : En → M D := fun ρ => (f ρ).bind fun d => match d with
  | .str a => (g ρ).bind fun y => q a y
  | _ => M.bad
def joinM (a : Str) (y : D) : M D := (opt (seqD y)).bind fun ds => (opt (strsD ds)).bind fun xs => guardM (decide ((xs.map (·.length)).sum + xs.length * a.length ≤ 16777216)) (M.pure (.str (Txt.join a xs)))
def splitM (a : Str) (y : D) : M D := match y with
  | .str b => guardM (!(b.length == 0) && decide (a.length + 2 ≤ sizeLine)) (M.pure (.lst ((Txt.split a b).map D.str)))
  | _ => M.bad
theorem se_m1 {r : V → List V → Hp → VK → Prop} {q : Str → D → M D} (hq : ∀ (H G : Hp) (μ : Mu) (st : Sto) (a : Str) (y : V) (dy : D) (Q : VK), Wd X.w X.K H G μ st → BRep X.K H G μ y dy → Post X.w X.K X.mg E (rRep X.K) H G μ (q a dy st) Q → r (.str a) [y] H Q) :
    ∀ σ H Q, Se X E H0 (rRep X.K) (eM1 q f g) σ H Q → tM1 r (Se X E H0 (rBRep X.K) f) (Se X E H0 (rBRep X.K) g) σ H Q := by
  intro σ H Q ⟨G, μ, st, ρ, w, er, k⟩
  refine ⟨G, μ, st, ρ, w, er, Post.bind k fun dx st1 x H1 G1 μ1 w1 s1 r1 k1 => ?_⟩
  cases dx with
  | str a =>
    have ex := r1.weak.str
    subst ex
    exact ⟨⟨a, rfl⟩, G1, μ1, st1, ρ, w1, er.step s1, Post.bind k1 fun dy st2 y H2 G2 μ2 w2 s2 r2 k2 => hq H2 G2 μ2 st2 a y dy Q w2 r2.weak k2⟩
  | _ => exact k1.elim
variable {apos : Pos}
theorem je_join (hf : JB X E H0 f a) (hg : JB X E H0 g b) (hs : starEach [b] X.env = [(false, eval b X.env)] := by rfl) (hbase : attributeBase a "join" X.env (eval a X.env) = eval a X.env := by rfl) (hline : (apos.endLine == pos.line) = true := by rfl) :
    JE X E H0 (eM1 joinM f g) (.Call (.Attribute a "join" apos) [b] [] pos) := PE.imp (pe_join hf hg hs hbase hline) (se_m1 fun H G μ st s y dy Q w ry k => by
  obtain ⟨ds, hd, k⟩ := Post.opt k
  obtain ⟨xs, hx, k⟩ := Post.opt k
  obtain ⟨c, k⟩ := Post.guard k
  obtain ⟨l, vs, rfl, hq, r⟩ := ry.seq w.imm hd
  have e := strs_rep r hx
  subst e
  exact ⟨s, l, xs, rfl, rfl, hq, of_decide_eq_true c, k _ _ _ _ w .refl (.str _)⟩)
theorem je_split (hf : JB X E H0 f a) (hg : JB X E H0 g b) (hs : starEach [b] X.env = [(false, eval b X.env)] := by rfl) (hbase : attributeBase a "split" X.env (eval a X.env) = eval a X.env := by rfl) (hline : (apos.endLine == pos.line) = true := by rfl) :
    JE X E H0 (eM1 splitM f g) (.Call (.Attribute a "split" apos) [b] [] pos) := PE.imp (pe_split hf hg hs hbase hline) (se_m1 fun H G μ st s y dy Q w ry k => by
  cases dy with
  | str z =>
    cases ry.str
    obtain ⟨c, k⟩ := Post.guard k
    rw [Bool.and_eq_true] at c
    refine ⟨s, z, rfl, rfl, by simpa using c.1, of_decide_eq_true c.2, fun l hl => ?_⟩
    obtain ⟨w2, s2⟩ := w.new (o := .lst ((Txt.split s z).map V.str)) hl
    exact k _ _ _ _ w2 s2 (.lst upd_same (rep_strs _))
  | _ => exact k.elim)
/-! ### f-strings -/
def fmtM : D → M D
  | .str y => (line y.length).bind fun _ => M.pure (.str y)
  | .int i => guardM (decide (i.natAbs.log2 < 1920)) (M.pure (.str (toString i)))
  | _ => M.bad
theorem je_fmt (ha : JE X E H0 f a) : JE X E H0 (e1 fmtM f) (.FormattedValue a (-1) none pos) := PE.imp (pe_fmt ha) fun σ H Q ⟨G, μ, st, ρ, w, er, q⟩ =>
  ⟨G, μ, st, ρ, w, er, Post.bind q fun d st1 v H1 G1 μ1 w1 s1 r1 q1 => by
    cases r1 with
    | str y =>
      obtain ⟨c, q1⟩ := Post.line (X := X) q1
      exact .inl ⟨y, rfl, c, q1 _ _ _ _ w1 .refl (.str _)⟩
    | int i =>
      obtain ⟨c, q1⟩ := Post.guard q1
      exact .inr ⟨i, rfl, of_decide_eq_true c, q1 _ _ _ _ w1 .refl (.str _)⟩
    | _ => exact q1.elim⟩
inductive JJ (X : Cx) (E : XK) (H0 : Hp) : List (En → M D) → List Expr → Prop
  | nil : JJ X E H0 [] []
  | cons {f : En → M D} {e : Expr} {fs : List (En → M D)} {es : List Expr} : JE X E H0 f e → JJ X E H0 fs es → JJ X E H0 (f :: fs) (e :: es)
def fjM : List (En → M D) → Str → En → M Str
  | [], acc, _ => M.pure acc
  | f :: fs, acc, ρ => (f ρ).bind fun d => match d with
    | .str y => (line (acc ++ y).length).bind fun _ => fjM fs (acc ++ y) ρ
    | _ => M.bad
def eFj (fs : List (En → M D)) : En → M D := fun ρ => (fjM fs Str.empty ρ).bind fun s => M.pure (.str s)
theorem JJ.pj {fs : List (En → M D)} {es : List Expr} (h : JJ X E H0 fs es) : PJ X es (fs.map fun f => Se X E H0 (rRep X.K) f) := by
  induction h with
  | nil => exact .nil
  | cons a b ih => exact .cons a ih
theorem se_fj : ∀ (fs : List (En → M D)) (acc : Str) (σ : L2.St) (H : Hp) (Q : Str → Hp → Prop), Se X E H0 rEq (fjM fs acc) σ H Q → tJs (fs.map fun f => Se X E H0 (rRep X.K) f) acc σ H Q
  | [], acc, σ, H, Q, ⟨G, μ, st, ρ, w, er, q⟩ => q acc H G μ w .refl rfl
  | f :: fs, acc, σ, H, Q, ⟨G, μ, st, ρ, w, er, q⟩ => ⟨G, μ, st, ρ, w, er, Post.bind q fun d st1 v H1 G1 μ1 w1 s1 r1 q1 => by
    cases r1 with
    | str y =>
      obtain ⟨c, q1⟩ := Post.line (X := X) q1
      exact ⟨y, rfl, c, se_fj fs _ σ H1 Q ⟨G1, μ1, st1, ρ, w1, er.step s1, q1⟩⟩
    | _ => exact q1.elim⟩
theorem je_fj {fs : List (En → M D)} {v1 v2 : Expr} {rest : List Expr} (hh : JJ X E H0 fs (v1 :: v2 :: rest)) : JE X E H0 (eFj fs) (.JoinedStr (v1 :: v2 :: rest) pos) := PE.imp (pe_joined hh.pj) fun σ H Q ⟨G, μ, st, ρ, w, er, q⟩ =>
  se_fj fs _ _ _ _ ⟨G, μ, st, ρ, w, er, Post.bind q fun d st1 v H1 G1 μ1 w1 s1 r1 q1 => by cases r1; exact q1 _ _ _ _ w1 .refl (.str _)⟩
/-! ### enumerate -/
def numb : Nat → List D → List D
  | _, [] => []
  | n, d :: ds => .tup [.int n, d] :: numb (n + 1) ds
theorem numb_len : ∀ (n : Nat) (ds : List D), (numb n ds).length = ds.length
  | _, [] => rfl
  | n, _ :: ds => congrArg (· + 1) (numb_len (n + 1) ds)
theorem numb_get : ∀ (n i : Nat) (ds : List D), (numb n ds)[i]? = (ds[i]?).map fun d => D.tup [.int ((n + i : Nat) : Int), d]
  | _, _, [] => by simp [numb]
  | n, 0, d :: ds => by simp [numb]
  | n, i + 1, d :: ds => by
    have := numb_get (n + 1) i ds
    simp only [numb, List.getElem?_cons_succ, this]
    rw [show n + 1 + i = n + (i + 1) by omega]
def iEnumD (g : En → M (List D)) : En → M (List D) := fun ρ => (g ρ).bind fun ds => match ds with
  | [.lst xs] => (line xs.length).bind fun _ => M.pure (numb 0 xs)
  | _ => M.bad
theorem ite_ok {K : PySem.W.Frag} {G : Hp} {μ : Mu} {a : Addr} {vs : List V} {ds : List D} (hl : SqL K G a vs) (r : RepL K G μ vs ds) (hz : ds.length ≤ sizeLine) : ItR wW K G μ (Ite K a) (numb 0 ds) := by
  refine ⟨by rw [numb_len]; exact hz, fun H1 G1 μ1 st1 w sg sm => ⟨fun i hi => ?_, fun i hi => ?_⟩⟩
  · rw [numb_len] at hi
    have h1 : SqL K H1 a vs := (sg.trans w.imm).sqL hl
    obtain ⟨v, hv, rv⟩ := r.get (List.getElem?_eq_getElem hi)
    refine ⟨⟨vs, v, h1, hv⟩, fun x H2 ⟨T, y, ex, hT, eH, hy⟩ => ?_⟩
    subst ex eH
    have ey : y = v := Option.some.inj ((hy vs h1).symm.trans hv)
    subst ey
    obtain ⟨w2, s2⟩ := w.new (o := .tup [.int (i : Nat), y]) hT
    refine ⟨_, w2, s2, _, by rw [numb_get, List.getElem?_eq_getElem hi]; rfl, ?_⟩
    rw [Nat.zero_add]
    exact .tup (.inl (.inl upd_same)) (.cons (.int _) (.cons ((rv.mono sg sm).mono s2.g s2.m) .nil))
  · rw [numb_len] at hi
    exact ⟨vs, (sg.trans w.imm).sqL hl, by rw [RepL.length r]; exact hi⟩
theorem ji_enum {elts : List Expr} {kk : Nat} {tpos : Pos} (hg : Gl X "enumerate") (hm : X.mg "enumerate" = none) (ha : JA X E H0 ga [a]) (hs : starEach [a] X.env = [(false, eval a X.env)] := by rfl) :
    JI X E H0 (.Tuple elts kk tpos) (iEnumD ga) (.Call (.Name "enumerate" p) [a] [] pos) := by
  refine PI.imp (pi_enum hg hm ha hs) fun σ H R ⟨G, μ, st, ρ, w, er, q⟩ => ?_
  refine ⟨G, μ, st, ρ, w, er, Post.raw q fun ds st1 vs H1 G1 μ1 w1 s1 r1 q1 => ?_⟩
  cases r1 with
  | nil => exact q1.elim
  | cons h t =>
    cases t with
    | cons _ _ => cases h <;> exact q1.elim
    | nil =>
      cases h with
      | lst h1 rr =>
        obtain ⟨c, q1⟩ := Post.line (X := X) q1
        exact ⟨_, _, rfl, w1.imm.sqL (.inl (.inl h1)), q1 _ _ _ _ w1 s1 (ite_ok (.inl (.inl h1)) rr c)⟩
      | _ => exact q1.elim
end
end PL

set_option linter.all false
set_option maxRecDepth 100000
set_option maxHeartbeats 4000000
/-! PL11: dicts of the store: displays, d[k], d[k] = v, k in d. -/
namespace PL
open PySem PySem.Spec L2
variable {wW : World}
/-- k in its place, or at the end -/
def putD (kvs : List (Key × D)) (k : Key) (d : D) : List (Key × D) := if (kvs.any fun q => decide (q.1 = k)) = true then kvs.map (fun q => if q.1 = k then (q.1, d) else q) else kvs ++ [(k, d)]
def valD (k : Key) : List (Key × D) → Option D
  | [] => none
  | p :: r => if p.1 = k then some p.2 else valD k r
def keyD : D → Option Key
  | .int i => some (.inl i)
  | .str x => some (.inr x)
  | _ => none
section
variable {K : PySem.W.Frag} {G H : Hp} {μ : Mu}
/-- the pairs ws are kvs; no key stands twice -/
structure KR (K : PySem.W.Frag) (G : Hp) (μ : Mu) (ws : List (Key × V)) (kvs : List (Key × D)) : Prop where
  k : ws.map (·.1) = kvs.map (·.1)
  v : RepL K G μ (ws.map (·.2)) (kvs.map (·.2))
theorem KR.nil : KR K G μ [] [] := ⟨rfl, .nil⟩
theorem KR.cons {k : Key} {v : V} {d : D} {ws : List (Key × V)} {kvs : List (Key × D)} (h : Rep K G μ v d) (r : KR K G μ ws kvs) : KR K G μ ((k, v) :: ws) ((k, d) :: kvs) := ⟨by simp [r.k], .cons h r.v⟩
theorem KR.split {ws : List (Key × V)} {p : Key × D} {kvs : List (Key × D)} (r : KR K G μ ws (p :: kvs)) : ∃ v ws', ws = (p.1, v) :: ws' ∧ Rep K G μ v p.2 ∧ KR K G μ ws' kvs := by
  obtain ⟨e, r⟩ := r
  cases ws with
  | nil => simp at e
  | cons q ws =>
    simp only [List.map_cons, List.cons.injEq] at e
    cases r with
    | cons h t => exact ⟨q.2, ws, by rw [← e.1], h, e.2, t⟩
def ValR (K : PySem.W.Frag) (G : Hp) (μ : Mu) (ws : List (Key × V)) (k : Key) : Option D → Prop
  | some d => ∃ v, valV ws k = some v ∧ Rep K G μ v d
  | none => valV ws k = none
theorem KR.val : ∀ {kvs : List (Key × D)} {ws : List (Key × V)} (r : KR K G μ ws kvs) (k : Key), ValR K G μ ws k (valD k kvs)
  | [], ws, r, k => by
    have : ws = [] := by simpa using r.k
    subst this; rfl
  | p :: kvs, ws, r, k => by
    obtain ⟨v, ws', rfl, h, t⟩ := r.split
    unfold valD
    by_cases e : p.1 = k
    · rw [if_pos e]; exact ⟨v, valV_pos (p := (p.1, v)) e, h⟩
    · rw [if_neg e]
      have ih := KR.val t k
      cases q : valD k kvs with
      | none => rw [q] at ih; exact (valV_neg (p := (p.1, v)) e).trans ih
      | some d => rw [q] at ih; obtain ⟨u, h1, h2⟩ := ih; exact ⟨u, (valV_neg (p := (p.1, v)) e).trans h1, h2⟩
theorem KR.any : ∀ {kvs : List (Key × D)} {ws : List (Key × V)} (r : KR K G μ ws kvs) (k : Key), (ws.any fun q => decide (q.1 = k)) = kvs.any fun q => decide (q.1 = k)
  | [], ws, r, k => by
    have : ws = [] := by simpa using r.k
    subst this; rfl
  | p :: kvs, ws, r, k => by
    obtain ⟨v, ws', rfl, h, t⟩ := r.split
    rw [List.any_cons, List.any_cons, KR.any t k]
theorem KR.mapp {k : Key} {v : V} {d : D} (h : Rep K G μ v d) : ∀ {kvs : List (Key × D)} {ws : List (Key × V)}, KR K G μ ws kvs → KR K G μ (ws.map fun q => if q.1 = k then (q.1, v) else q) (kvs.map fun q => if q.1 = k then (q.1, d) else q)
  | [], ws, r => by
    have : ws = [] := by simpa using r.k
    subst this; exact .nil
  | p :: kvs, ws, r => by
    obtain ⟨u, ws', rfl, hu, t⟩ := r.split
    rw [List.map_cons, List.map_cons]
    by_cases e : p.1 = k
    · rw [if_pos e, if_pos e]; exact .cons h (KR.mapp h t)
    · rw [if_neg e, if_neg e]; exact .cons hu (KR.mapp h t)
theorem KR.app {k : Key} {v : V} {d : D} (h : Rep K G μ v d) : ∀ {kvs : List (Key × D)} {ws : List (Key × V)}, KR K G μ ws kvs → KR K G μ (ws ++ [(k, v)]) (kvs ++ [(k, d)])
  | [], ws, r => by
    have : ws = [] := by simpa using r.k
    subst this; exact .cons h .nil
  | p :: kvs, ws, r => by
    obtain ⟨u, ws', rfl, hu, t⟩ := r.split
    exact .cons hu (KR.app h t)
theorem KR.put {k : Key} {v : V} {d : D} (h : Rep K G μ v d) {kvs : List (Key × D)} {ws : List (Key × V)} (r : KR K G μ ws kvs) : KR K G μ (putK ws k v) (putD kvs k d) := by
  unfold putK putD
  rw [r.any k]
  split
  · exact r.mapp h
  · exact r.app h
theorem KR.mono {G' : Hp} {μ' : Mu} {ws : List (Key × V)} {kvs : List (Key × D)} (r : KR K G μ ws kvs) (s : Sub G G') (m : SubM μ μ') : KR K G' μ' ws kvs := ⟨r.k, r.v.mono s m⟩
theorem OR.kr {a : Addr} {kvs : List (Key × D)} (x : OR wW K G μ H a (.dict kvs)) : ∃ ws, H a = some (.dK ws) ∧ KR K G μ ws kvs := let ⟨ws, h, k, r⟩ := x; ⟨ws, h, k, r⟩
theorem KR.or {a : Addr} {ws : List (Key × V)} {kvs : List (Key × D)} (r : KR K G μ ws kvs) (h : H a = some (.dK ws)) : OR wW K G μ H a (.dict kvs) := ⟨ws, h, r.k, r.v⟩
theorem rep_key {v : V} {d : D} {k : Key} (r : Rep K G μ v d) (h : keyD d = some k) : v = kV k := by
  cases r <;> cases h <;> rfl
theorem KR.len {ws : List (Key × V)} {kvs : List (Key × D)} (r : KR K G μ ws kvs) : ws.length = kvs.length := by
  have := congrArg List.length r.k
  simpa using this
end
/-! ### d[k], k in d, d[k] = v -/
def dictAt (n : Nat) : M (List (Key × D)) := fun st => match st[n]? with
  | some (.dict kvs) => .ok kvs st
  | _ => .bad
def refD : D → Option Nat
  | .ref n => some n
  | _ => none
def dgM (x y : D) : M D := (opt (refD x)).bind fun n => (opt (keyD y)).bind fun k => (dictAt n).bind fun kvs => opt (valD k kvs)
def dinM (neg : Bool) (y x : D) : M D := (opt (refD x)).bind fun n => (opt (keyD y)).bind fun k => (dictAt n).bind fun kvs => PL.bl (if neg then !(valD k kvs).isSome else (valD k kvs).isSome)
def setAt (n : Nat) (o : Ob) : M Unit := fun st => .ok () (st.set n o)
def dpM (x y v : D) : M Unit := (opt (refD x)).bind fun n => (opt (keyD y)).bind fun k => (dictAt n).bind fun kvs => guardM (decide (kvs.length < sizeLine)) (setAt n (.dict (putD kvs k v)))
section
variable {X : Cx} {E : XK} {H0 : Hp} {e a b c o i : Expr} {f g h : En → M D} {pos p p0 : Pos} {Φ : Ent}
theorem Post.dict {α β : Type} {K : PySem.W.Frag} {mg : Str → Option Value} {R : RR β α} {H G : Hp} {μ : Mu} {n : Nat} {k : List (Key × D) → M α} {st : Sto} {Q : β → Hp → Prop} (q : Post wW K mg E R H G μ ((dictAt n).bind k st) Q) : ∃ kvs, st[n]? = some (.dict kvs) ∧ Post wW K mg E R H G μ (k kvs st) Q := by
  unfold M.bind dictAt at q
  cases e : st[n]? with
  | none => rw [e] at q; exact q.elim
  | some o =>
    rw [e] at q
    cases o with
    | dict kvs => exact ⟨kvs, rfl, q⟩
    | lst _ => exact q.elim
    | ins _ _ => exact q.elim
    | tab _ _ => exact q.elim
    | nd _ => exact q.elim
theorem Rep.dict {K : PySem.W.Frag} {H G : Hp} {μ : Mu} {st : Sto} {v : V} {d : D} {n : Nat} {kvs : List (Key × D)} (r : Rep K G μ v d) (hn : refD d = some n) (w : Wd wW K H G μ st) (hs : st[n]? = some (.dict kvs)) : ∃ l ws, v = .ref l ∧ μ n = some l ∧ H l = some (.dK ws) ∧ KR K G μ ws kvs := by
  cases r with
  | ref hm =>
    cases hn
    obtain ⟨l, h1, h2, h3⟩ := w.obj n _ hs
    rw [hm] at h1; cases h1
    obtain ⟨ws, h4, h5⟩ := h3.kr
    exact ⟨_, ws, rfl, hm, h4, h5⟩
  | _ => cases hn
theorem je_dget (hu : X.A.units + 1 < cLine) (ho : JE X E H0 f o) (hi : JE X E H0 g i) (hs : NoSl i := by intro _ _; rfl) : JE X E H0 (e2 dgM f g) (.Subscript o i pos) := by
  refine PE.imp (pe_dget hu ho hi hs) fun σ H Q ⟨G, μ, st, ρ, w, er, q⟩ => ?_
  refine ⟨G, μ, st, ρ, w, er, Post.bind q fun dx st1 x H1 G1 μ1 w1 s1 r1 q1 => ⟨G1, μ1, st1, ρ, w1, er.step s1, Post.bind q1 fun dy st2 y H2 G2 μ2 w2 s2 r2 q2 => ?_⟩⟩
  obtain ⟨n, hn, q2⟩ := Post.opt q2
  obtain ⟨k, hk, q2⟩ := Post.opt q2
  obtain ⟨kvs, hd, q2⟩ := Post.dict q2
  obtain ⟨l, ws, rfl, _, h4, h5⟩ := (r1.mono s2.g s2.m).dict hn w2 hd
  have ey := rep_key r2 hk
  subst ey
  have hv := h5.val k
  cases e : valD k kvs with
  | none => rw [e] at q2; exact q2.elim
  | some d =>
    rw [e] at hv q2
    obtain ⟨v, h6, h7⟩ := hv
    exact ⟨l, v, rfl, by rw [← h6]; exact DGet.k h4, q2 _ _ _ _ w2 .refl h7⟩
theorem se_din (neg : Bool) : ∀ σ H Q, Se X E H0 (rRep X.K) (e2 (dinM neg) f g) σ H Q → (Se X E H0 (rRep X.K) f) σ H fun y H1 => (Se X E H0 (rRep X.K) g) σ H1 fun x H2 => ∃ l w, x = .ref l ∧ DGet H2 l y w ∧ Q (.bl (if neg then !w.isSome else w.isSome)) H2 := fun σ H Q ⟨G, μ, st, ρ, w, er, q⟩ => by
  refine ⟨G, μ, st, ρ, w, er, Post.bind q fun dx st1 x H1 G1 μ1 w1 s1 r1 q1 => ⟨G1, μ1, st1, ρ, w1, er.step s1, Post.bind q1 fun dy st2 y H2 G2 μ2 w2 s2 r2 q2 => ?_⟩⟩
  obtain ⟨n, hn, q2⟩ := Post.opt q2
  obtain ⟨k, hk, q2⟩ := Post.opt q2
  obtain ⟨kvs, hd, q2⟩ := Post.dict q2
  obtain ⟨l, ws, rfl, _, h4, h5⟩ := r2.dict hn w2 hd
  have ey := rep_key (r1.mono s2.g s2.m) hk
  subst ey
  refine ⟨l, valV ws k, rfl, DGet.k h4, ?_⟩
  have e : (valV ws k).isSome = (valD k kvs).isSome := by
    have hv := h5.val k
    cases e : valD k kvs with
    | none => rw [e] at hv; have hv' : valV ws k = none := hv; rw [hv']; rfl
    | some d => rw [e] at hv; obtain ⟨v, h6, _⟩ := hv; rw [h6]; rfl
  rw [e]
  exact q2.bl w2
theorem se_test : ∀ σ H (Q : Bool → Hp → Prop), Se X E H0 rTrue (tBl f) σ H Q → Se X E H0 (rRep X.K) f σ H fun x H1 => ∃ c, x = .bl c ∧ Q c H1 := fun σ H Q ⟨G, μ, st, ρ, w, er, q⟩ =>
  ⟨G, μ, st, ρ, w, er, Post.bind q fun d st1 x H1 G1 μ1 w1 s1 r1 q1 => by
    cases r1 with
    | bl b => exact ⟨b, rfl, q1 _ _ _ _ w1 .refl rfl⟩
    | _ => exact q1.elim⟩
theorem je_din (hu : X.A.units + 1 < cLine) (ha : JE X E H0 f i) (hb : JE X E H0 g o) (hm : behindInMarks .In o = false := by rfl) : JE X E H0 (e2 (dinM false) f g) (.Compare i [.In] [o] pos) := PE.imp (pe_cmp (pc_din hu ha hb) hm) fun σ H Q h => se_din false σ H Q h
theorem je_dnotIn (hu : X.A.units + 1 < cLine) (ha : JE X E H0 f i) (hb : JE X E H0 g o) (hm : behindInMarks .NotIn o = false := by rfl) : JE X E H0 (e2 (dinM true) f g) (.Compare i [.NotIn] [o] pos) := PE.imp (pe_cmp (pc_dnotin hu ha hb) hm) fun σ H Q h => se_din true σ H Q h
theorem jt_din (hu : X.A.units + 1 < cLine) (ha : JE X E H0 f i) (hb : JE X E H0 g o) (hm : behindInMarks .In o = false := by rfl) : JT X E H0 (tBl (e2 (dinM false) f g)) (.Compare i [.In] [o] pos) := PT.imp (pt_cmp (pc_din hu ha hb) hm) fun σ H Q h => se_din false σ H _ (se_test σ H Q h)
theorem jt_dnotIn (hu : X.A.units + 1 < cLine) (ha : JE X E H0 f i) (hb : JE X E H0 g o) (hm : behindInMarks .NotIn o = false := by rfl) : JT X E H0 (tBl (e2 (dinM true) f g)) (.Compare i [.NotIn] [o] pos) := PT.imp (pt_cmp (pc_dnotin hu ha hb) hm) fun σ H Q h => se_din true σ H _ (se_test σ H Q h)
def sDPut (fo fi fv : En → M D) : En → M (Fl × En) := fun ρ => (fv ρ).bind fun v => (fo ρ).bind fun x => (fi ρ).bind fun y => (dpM x y v).bind fun _ => M.pure (.nx, ρ)
theorem js_dput {value : Expr} {pos' : Pos} (hu : X.A.units + 1 < cLine) (ho : JE X E Φ.H f o) (hi : JE X E Φ.H g i) (hv : JE X E Φ.H h value) (hs : swapsWith value (some (.Subscript o i pos')) pos.line X.env = pure false := by rfl) :
    JS X E Φ (sDPut f g h) (.Assign [.Subscript o i pos'] value pos) := by
  refine PS.imp (ps_dput hu ho hi hv hs) fun Dn σ H ⟨G, μ, st, ρ, w, er, s, q⟩ => ?_
  refine ⟨G, μ, st, ρ, w, er, q.bind s fun dv st1 v H1 G1 μ1 w1 s1 t1 r1 q1 => ⟨G1, μ1, st1, ρ, w1, er.step s1, q1.bind t1 fun dx st2 x H2 G2 μ2 w2 s2 t2 r2 q2 =>
    ⟨G2, μ2, st2, ρ, w2, (er.step s1).step s2, q2.bind t2 fun dy st3 y H3 G3 μ3 w3 s3 t3 r3 q3 => ?_⟩⟩⟩
  have r1' := (r1.mono s2.g s2.m).mono s3.g s3.m
  unfold dpM at q3
  rw [M.bind_assoc] at q3
  obtain ⟨n, hn, q3⟩ := PostS.opt q3
  rw [M.bind_assoc] at q3
  obtain ⟨k, hk, q3⟩ := PostS.opt q3
  rw [M.bind_assoc] at q3
  unfold M.bind dictAt at q3
  cases e : st3[n]? with
  | none => rw [e] at q3; exact q3.elim
  | some ob =>
    rw [e] at q3
    cases ob with
    | lst _ => exact q3.elim
    | ins _ _ => exact q3.elim
    | tab _ _ => exact q3.elim
    | nd _ => exact q3.elim
    | dict kvs =>
      obtain ⟨l, ws, rfl, hm, h4, h5⟩ := (r2.mono s3.g s3.m).dict hn w3 e
      have ey := rep_key r3 hk
      subst ey
      by_cases hz : kvs.length < sizeLine
      · have q4 : PostS X E Φ Dn (.ok (.nx, ρ) (st3.set n (.dict (putD kvs k dv)))) := by
          have := q3
          simp only [guardM, hz, decide_true, if_true, setAt, M.pure] at this
          exact this
        obtain ⟨w4, s4⟩ := w3.write (x := .dict (putD kvs k dv)) (o := .dK (putK ws k v)) e hm ((h5.put r1').or upd_same)
        exact ⟨l, _, rfl, DPut.k h4 (by rw [h5.len]; exact hz), q4 _ _ _ _ w4 ((((er.step s1).step s2).step s3).step s4) (t3.trans s4)⟩
      · have : False := by
          have := q3
          simp only [guardM, hz, decide_false] at this
          exact this
        exact this.elim
/-! ### {'k': v, ..} -/
def aL : List (En → M D) → En → M (List D)
  | [], _ => M.pure []
  | f :: fs, ρ => (f ρ).bind fun x => (aL fs ρ).bind fun xs => M.pure (x :: xs)
def putAll (kvs more : List (Key × D)) : List (Key × D) := more.foldl (fun acc q => putD acc q.1 q.2) kvs
def newOb (o : Ob) : M D := fun st => .ok (.ref st.length) (st ++ [o])
def eDict (ks : List Str) (fs : List (En → M D)) : En → M D := fun ρ => (aL fs ρ).bind fun ds => newOb (.dict (putAll [] ((ks.map Sum.inr).zip ds)))
theorem KR.all {K : PySem.W.Frag} {G : Hp} {μ : Mu} : ∀ {vs : List V} {ds : List D} (ks : List Str) {ws : List (Key × V)} {kvs : List (Key × D)}, RepL K G μ vs ds → KR K G μ ws kvs → KR K G μ (mergeK ws ((ks.map Sum.inr).zip vs)) (putAll kvs ((ks.map Sum.inr).zip ds))
  | _, _, [], _, _, _, q => by simpa [mergeK, putAll] using q
  | _, _, k :: ks, _, _, .nil, q => by simpa [mergeK, putAll] using q
  | _, _, k :: ks, _, _, .cons h t, q => KR.all ks t (q.put h)
/-- the trees' readings -/
def trsOf (X : Cx) (E : XK) (H0 : Hp) : List Str → List (En → M D) → List (TE × TE)
  | k :: ks, f :: fs => (tC (.str k), Se X E H0 (rRep X.K) f) :: trsOf X E H0 ks fs
  | _, _ => []
theorem se_pairs : ∀ (fs : List (En → M D)) (ks : List Str) (σ : L2.St) (H : Hp) (Q' : List V → Hp → Prop) (Q : List (V × V) → Hp → Prop), ks.length = fs.length → Se X E H0 (rRepL X.K) (aL fs) σ H Q' → (∀ vs H', Q' vs H' → Q ((ks.map V.str).zip vs) H') → tPairs (trsOf X E H0 ks fs) σ H Q
  | [], [], σ, H, Q', Q, _, ⟨G, μ, st, ρ, w, er, q⟩, k => k [] H (q [] H G μ w .refl .nil)
  | f :: fs, x :: ks, σ, H, Q', Q, hl, ⟨G, μ, st, ρ, w, er, q⟩, k => by
    refine ⟨G, μ, st, ρ, w, er, Post.bind q fun d st1 v H1 G1 μ1 w1 s1 r1 q1 => ?_⟩
    refine se_pairs fs ks σ H1 (fun vs H' => Q' (v :: vs) H') _ (by simpa using hl) ⟨G1, μ1, st1, ρ, w1, er.step s1, Post.bind q1 fun ds st2 vs H2 G2 μ2 w2 s2 r2 q2 => q2 _ _ _ _ w2 .refl (.cons (r1.mono s2.g s2.m) r2)⟩ fun vs H' h => k (v :: vs) H' h
  | [], _ :: _, _, _, _, _, hl, _, _ => by simp at hl
  | _ :: _, [], _, _, _, _, hl, _, _ => by simp at hl
inductive JP (X : Cx) (E : XK) (H0 : Hp) (pos : Pos) : List Str → List (En → M D) → List (Option Expr) → List Expr → Prop
  | nil : JP X E H0 pos [] [] [] []
  | cons {k : Str} {j : Nat} {pk : Pos} {f : En → M D} {e : Expr} {ks : List Str} {fs : List (En → M D)} {kes : List (Option Expr)} {es : List Expr} : JE X E H0 f e → JP X E H0 pos ks fs kes es → JP X E H0 pos (k :: ks) (f :: fs) (some (.Constant (.str k) j pk) :: kes) (e :: es)
theorem JP.pps {ks : List Str} {fs : List (En → M D)} {kes : List (Option Expr)} {es : List Expr} (h : JP X E H0 pos ks fs kes es) : PPs X pos kes es (trsOf X E H0 ks fs) := by
  induction h with
  | nil => exact pps_nil
  | cons a b ih => exact pps_cons pe_str a ih
theorem JP.len {ks : List Str} {fs : List (En → M D)} {kes : List (Option Expr)} {es : List Expr} (h : JP X E H0 pos ks fs kes es) : ks.length = fs.length ∧ kes.length = fs.length ∧ es.length = fs.length ∧ kes.all (·.isSome) = true := by
  induction h with
  | nil => exact ⟨rfl, rfl, rfl, rfl⟩
  | cons a b ih => obtain ⟨h1, h2, h3, h4⟩ := ih; exact ⟨by simp [h1], by simp [h2], by simp [h3], by simp [h4]⟩
section
variable {K : PySem.W.Frag} {H G H1 G1 : Hp} {μ μ1 : Mu} {st : Sto}
/-- an object that nobody holds comes into the store -/
theorem Wd.adopt (w : Wd wW K H G μ st) {p : Addr} {o : HO} {x : Ob} (gp : G p = none) (np : ∀ n, μ n ≠ some p) (hx : OR wW K G (muAdd μ st.length p) (upd H p o) p x) : Wd wW K (upd H p o) G (muAdd μ st.length p) (st ++ [x]) := by
  have nn : μ st.length = none := by
    cases q : μ st.length with
    | none => rfl
    | some a => exact absurd (w.dom _ _ q) (Nat.lt_irrefl _)
  have sm : SubM μ (muAdd μ st.length p) := fun n a h => by
    unfold muAdd; rw [if_neg (fun e => by rw [e, nn] at h; cases h)]; exact h
  refine ⟨fun a u h => by rw [upd_ne (fun z => by rw [z, gp] at h; cases h)]; exact w.imm _ _ h, fun n y e => ?_, fun n m a e1 e2 => ?_, fun n a e => ?_⟩
  · by_cases hn : n = st.length
    · subst hn
      rw [List.getElem?_concat_length] at e
      cases e
      exact ⟨p, by unfold muAdd; rw [if_pos rfl], gp, hx⟩
    · have hlt : n < st.length := by
        have := (List.getElem?_eq_some_iff.mp e).1
        rw [List.length_append, List.length_singleton] at this
        omega
      rw [List.getElem?_append_left hlt] at e
      obtain ⟨a, h1, h2, h3⟩ := w.obj n y e
      have ne : a ≠ p := fun z => np n (z ▸ h1)
      exact ⟨a, sm _ _ h1, h2, h3.mono (fun _ _ h => h) sm fun v hv => by rw [upd_ne ne]; exact hv⟩
  · unfold muAdd at e1 e2
    by_cases h1 : n = st.length <;> by_cases h2 : m = st.length
    · rw [h1, h2]
    · rw [if_pos h1] at e1; rw [if_neg h2] at e2; cases e1; exact absurd e2 (np m)
    · rw [if_neg h1] at e1; rw [if_pos h2] at e2; cases e2; exact absurd e1 (np n)
    · rw [if_neg h1] at e1; rw [if_neg h2] at e2; exact w.inj n m a e1 e2
  · unfold muAdd at e
    rw [List.length_append, List.length_singleton]
    by_cases h1 : n = st.length
    · omega
    · rw [if_neg h1] at e
      have := w.dom n a e
      omega
theorem Stp.adopt (s : Stp H1 G1 μ1 H G μ) (w : Wd wW K H G μ st) {p : Addr} {o : HO} (h0 : H1 p = none) : Stp H1 G1 μ1 (upd H p o) G (muAdd μ st.length p) where
  g := s.g
  m := fun n a h => by
    have h' := s.m n a h
    have := w.dom n a h'
    unfold muAdd; rw [if_neg (by omega)]; exact h'
  fr := fun b u e n => by rw [upd_ne (ne_of_none e h0)]; exact s.fr b u e n
  th := fun b u e => by rw [upd_ne (ne_of_none e h0)]; exact s.th b u e
  ng := s.ng
  nm := fun n a e q => by
    unfold muAdd at q
    by_cases h1 : n = st.length
    · rw [if_pos h1] at q; cases q; exact h0
    · rw [if_neg h1] at q; exact s.nm n a e q
end
/-- the way through a bind from a later state on; what is wanted is told from the first one on -/
theorem Post.later {α β γ δ : Type} {K : PySem.W.Frag} {mg : Str → Option Value} {H G H1 G1 : Hp} {μ μ1 : Mu} {R : RR β α} {R2 : RR δ γ} {m : M γ} {f : γ → M α} {st : Sto} {Q : β → Hp → Prop} {Q2 : δ → Hp → Prop} (p : Post wW K mg E R H G μ (m.bind f st) Q) (s : Stp H G μ H1 G1 μ1)
    (h : ∀ a st' v H' G' μ', Wd wW K H' G' μ' st' → Stp H1 G1 μ1 H' G' μ' → R2.r H1 H' G' μ' v a → Post wW K mg E R H G μ (f a st') Q → Q2 v H') : Post wW K mg E R2 H1 G1 μ1 (m st) Q2 := by
  unfold M.bind at p
  cases e : m st with
  | ok a st' => rw [e] at p; exact fun v H' G' μ' w t q => h a st' v H' G' μ' w t q p
  | err x st' => rw [e] at p; exact fun c dd H' G' μ' w t q => p c dd H' G' μ' w (s.trans t) q
  | bad => rw [e] at p; exact p
theorem zip_keys : ∀ (ks : List Str) (vs : List V), (ks.map V.str).zip vs = ((ks.map Sum.inr).zip vs).map fun q => (kV q.1, q.2)
  | [], _ => by simp
  | _ :: _, [] => by simp
  | k :: ks, v :: vs => by
    have := zip_keys ks vs
    simp only [List.map_cons, List.zip_cons_cons, this]
    rfl
theorem je_dict {ks : List Str} {fs : List (En → M D)} {kes : List (Option Expr)} {es : List Expr} (h : JP X E H0 pos ks fs kes es) (h0 : kes ≠ [] := by simp) (h15 : fs.length ≤ 15 := by decide) : JE X E H0 (eDict ks fs) (.Dict kes es pos) := by
  obtain ⟨l1, l2, l3, l4⟩ := h.len
  refine PE.imp (pe_disp h.pps l4 (l2.trans l3.symm) h0 (by rw [l2]; exact h15)) fun σ H Q ⟨G, μ, st, ρ, w, er, q⟩ p hp => ?_
  have np : ∀ n, μ n ≠ some p := fun k e => by
    obtain ⟨b, h1, _, h3⟩ := w.obj k _ (List.getElem?_eq_getElem (w.dom k p e))
    rw [e] at h1; cases h1
    obtain ⟨u, hu⟩ := h3.there
    rw [hp] at hu; cases hu
  have gp : G p = none := none_before w.imm.th hp
  obtain ⟨w0, s0⟩ := w.lay (o := .dK []) hp
  refine se_pairs fs ks σ _ (fun vs H2 => H2 p = some (.dK []) ∧ Q (.ref p) (upd H2 p (.dK (mergeK [] ((ks.map Sum.inr).zip vs))))) _ l1 ⟨G, μ, st, ρ, w0, er.step s0, Post.later q s0 fun ds st2 vs H2 G2 μ2 w2 s2 r2 q2 => ?_⟩ fun vs H2 ⟨hH, hq⟩ => ?_
  · have hH : H2 p = some (.dK []) := s2.fr p _ upd_same np
    have g2 : G2 p = none := by
      cases e : G2 p with
      | none => rfl
      | some o => have := s2.ng p gp (by rw [e]; simp); rw [upd_same] at this; cases this
    have n2 : ∀ n, μ2 n ≠ some p := fun n e => by
      cases e' : μ n with
      | some b => have := s2.m n b e'; rw [e] at this; cases this; exact np n e'
      | none => have := s2.nm n p e' e; rw [upd_same] at this; cases this
    have kr : KR X.K G2 (muAdd μ2 st2.length p) (mergeK [] ((ks.map Sum.inr).zip vs)) (putAll [] ((ks.map Sum.inr).zip ds)) := KR.all ks (r2.mono (fun _ _ h => h) fun n a h => by
      have := w2.dom n a h
      unfold muAdd; rw [if_neg (by omega)]; exact h) .nil
    exact ⟨hH, q2 _ _ _ _ (w2.adopt g2 n2 (kr.or upd_same)) ((s0.trans s2).adopt w2 hp) (.ref (by unfold muAdd; rw [if_pos rfl]))⟩
  · refine ⟨hH, (ks.map Sum.inr).zip vs, zip_keys ks vs, ?_, hq⟩
    rw [List.length_zip, List.length_map]
    omega
end
end PL

set_option linter.all false
set_option maxRecDepth 100000
set_option maxHeartbeats 6000000
/-! PL12: set(xs) of a list of ints, sorted. -/
namespace PL
section
open PySem PySem.Spec PyProof.Rows L2
variable {wW : World}
variable {prog : Program} {w : World} {A : Around} {E : Value → Shared → Prop} {s : Shared}
theorem set_of_ints {l : Addr} {zs : Array Value} (ks : List Int) {Q : Value → Shared → Prop} (hA : A.handled = none) (hL : s.heap.IsList l zs) (hz : IntsAre zs.toList ks) (bd : ks.length + 1 < scanBound)
    (fin : ∀ (hp : Heap) (tk c0 : Nat), SetR w hp s.heap.objs.size (fun j => decide (j ∈ ks)) c0 → c0 ≤ ks.length → (∀ x1 o, s.heap.get? x1 = some o → hp.get? x1 = some o) → Q (.ref s.heap.objs.size) { s with heap := hp, toks := tk }) :
    wpAny (model prog w) A (call (.type "set") [.ref l]) Q E s := by
  have sz0 : zs.size = ks.length := by
    have q := IntsAre.length hz
    rw [Array.length_toList] at q
    exact q
  obtain ⟨c0, tl, m0⟩ := F.called_set.mro
  have m1 := F.called_set.made
  have m2 := F.called_set.sub
  refine wpAny_call (codeAny_of_tree ?_)
  show wpAny _ _ (callAny (.type "set") _) _ _ _
  refine wpAny_pure ⟨Code.quiet_builtin _ (by decide +kernel), codeAny_builtin F.entry_type_call ?_⟩
  rw [Around.under_plain (weight_type_call_type "set" [.ref l] []) rfl]
  have m3 := F.called_set.notType
  have m4 := F.called_set.canCreate
  have m5 := F.typeCall_set_1 (.ref l)
  repeat (any_goals (first | assumption | wp_step))

  refine codeAny_mono (code_set_led1 (.ref l) (E := E) (Q₁ := fun ob s1 => ob = .ref s.heap.objs.size ∧ s1 = { s with heap := s.heap.push { cls := .type "set", dict := none, data := .set #[] 0 (.fresh 0 0 (!w.params.followText "set-order")) } }) ⟨rfl, rfl⟩) fun r s1 hr => ?_
  cases r with
  | error e => exact hr
  | ok fl =>
    cases fl with
    | ret ob =>
      obtain ⟨rfl, rfl⟩ := hr
      have gS : (s.heap.push { cls := .type "set", dict := none, data := .set #[] 0 (.fresh 0 0 (!w.params.followText "set-order")) }).get? s.heap.objs.size = some { cls := .type "set", dict := none, data := .set #[] 0 (.fresh 0 0 (!w.params.followText "set-order")) } := Heap.get?_push_size _ rfl
      have tS : Shared.TypeIs { s with heap := s.heap.push { cls := .type "set", dict := none, data := .set #[] 0 (.fresh 0 0 (!w.params.followText "set-order")) } } (.ref s.heap.objs.size) "set" := ⟨_, gS, rfl⟩
      have m6 := F.called_set.init.lookup
      have m7 := F.called_set.init.bind (.ref s.heap.objs.size)
      repeat (any_goals (first | assumption | wp_step))

      refine codeAny_mono (codeAny_call_builtin (R := wants (fun r s2 => r = .none ∧ ∃ hp tk c0, s2 = { s with heap := hp, toks := tk } ∧ SetR w hp s.heap.objs.size (fun j => decide (j ∈ ks)) c0 ∧ c0 ≤ ks.length ∧
          (∀ x1 o, s.heap.get? x1 = some o → hp.get? x1 = some o)) E) F.called_set.init.plain F.entry_set_init (check_set_init_1 tS ?_)) fun r2 s2 hr2 => ?_
      · obtain ⟨o1, go, gc, n1, gd⟩ := hL
        obtain ⟨oc, od, oa, os1⟩ := o1
        simp only at gc gd
        subst gc; subst gd
        have go2 : (s.heap.push { cls := .type "set", dict := none, data := .set #[] 0 (.fresh 0 0 (!w.params.followText "set-order")) }).get? l = some { cls := .type "list", dict := od, data := .seq zs n1, slots := os1 } := Heap.get?_push_of_some _ go
        have m8 := F.sub_list_set
        have m9 := F.sub_list_frozenset
        have mA : (Value.type "list" == Value.type "dict") = false := by decide
        have gl1 : (s.heap.push { cls := .type "set", dict := none, data := .set #[] 0 (.fresh 0 0 (!w.params.followText "set-order")) }).IsList l zs := ⟨_, go2, rfl, n1, rfl⟩
        unfold Builtin.«set.__init__» noKeywords Builtin.Frozenset.updateFrom
        generalize gP : pyIter = PI
        wp_walk
        subst gP

        refine wpAny_pyIter_list gl1 ?_
        refine wpAny_bind (wpAny_runValue ?_)
        have lS : l < s.heap.objs.size := Heap.lt_size go
        have mB : A.in1.in1.in1.handled = none := by simp [hA]
        have mC : (s.heap.push { cls := .type "set", dict := none, data := .set #[] 0 (.fresh 0 0 (!w.params.followText "set-order")) }).objs.size = s.heap.objs.size + 1 := Heap.size_push ..
        have mD : l ≠ (s.heap.push { cls := .type "set", dict := none, data := .set #[] 0 (.fresh 0 0 (!w.params.followText "set-order")) }).objs.size := by
          rw [Heap.size_push]; exact Nat.ne_of_lt (Nat.lt_succ_of_lt lS)
        have mE : s.heap.objs.size ∉ [(s.heap.push { cls := .type "set", dict := none, data := .set #[] 0 (.fresh 0 0 (!w.params.followText "set-order")) }).objs.size, l] := by
          rw [Heap.size_push]; simp only [List.mem_cons, List.mem_singleton, List.not_mem_nil, or_false, not_or]
          exact ⟨Nat.ne_of_lt (Nat.lt_succ_self _), Nat.ne_of_gt lS⟩
        have gv : ∀ (i : Nat) (v : Value), zs[i]? = some v → ∃ k t, ks[i]? = some k ∧ v = .int k t := fun i v hv => by
          have hi : i < ks.length := by rw [← sz0]; exact (Array.getElem?_eq_some_iff.mp hv).1
          obtain ⟨t, e⟩ := PyProof.Rows.IntsAre.int_at hz i v (by rw [Array.getElem?_toList]; exact hv)
          refine ⟨ks[i], t, List.getElem?_eq_getElem hi, ?_⟩
          rw [e, List.getD_eq_getElem?_getD, List.getElem?_eq_getElem hi] <;> rfl
        refine set_update_ints ((Walks.list mB _ l mD zs).toS) s.heap.objs.size
          mE ks sz0 bd gv (zs.size - 0) 0 _ (by omega) (Nat.zero_le _)
          ⟨⟨_, Heap.get?_push_size _ rfl, rfl, rfl⟩, (gl1.push _)⟩ ?hS0 ?hR
        case hS0 =>
          have gg : ((s.heap.push { cls := .type "set", dict := none, data := .set #[] 0 (.fresh 0 0 (!w.params.followText "set-order")) }).push { cls := .type "list_iterator", data := .fields #[.ref l, .int 0 0] }).get? s.heap.objs.size
              = some { cls := .type "set", dict := none, data := .set #[] 0 (.fresh 0 0 (!w.params.followText "set-order")) } := Heap.get?_push_of_some _ gS
          exact ⟨0, Nat.le_refl 0, setR_new_at gg⟩
        case hR =>
          intro s3 c3 mv lc2 gS2
          obtain ⟨hp, g3, d3, t3, o3⟩ := s3
          have e1 : g3 = s.gens := mv.gens
          have e2 : d3 = s.drawn := mv.drawn
          have e3 : o3 = s.os := mv.os
          subst e1; subst e2; subst e3
          show wpAny _ _ _ _ _ _
          refine wpAny_pure ?_
          show wpAny _ _ (ret Value.none) _ _ _
          rw [sz0] at lc2
          refine wpAny_pure ⟨rfl, hp, t3, c3, rfl, gS2, lc2, fun x1 o e => ?_⟩
          have b0 : x1 < s.heap.objs.size := Heap.lt_size e
          have b1 : x1 ≠ s.heap.objs.size := Nat.ne_of_lt b0
          have b2 : x1 ≠ (s.heap.push { cls := .type "set", dict := none, data := .set #[] 0 (.fresh 0 0 (!w.params.followText "set-order")) }).objs.size := by
            rw [Heap.size_push]; exact Nat.ne_of_lt (Nat.lt_succ_of_lt b0)
          exact mv.heap x1 o (by simp only [List.mem_cons, List.mem_singleton, List.not_mem_nil, or_false, not_or]; exact ⟨b1, b2⟩) (Heap.get?_push_of_some _ (Heap.get?_push_of_some _ e))

      · cases r2 with
        | error e => exact hr2
        | ok fl2 =>
          cases fl2 with
          | ret r =>
            obtain ⟨rfl, hp, tk, c3, rfl, gS2, lc2, kp2⟩ := hr2
            repeat (any_goals (first | assumption | wp_step))
            exact fin _ _ _ gS2 lc2 kp2
          | _ => exact hr2.elim
    | _ => exact hr.elim
end
end PL

set_option linter.all false
set_option maxRecDepth 100000
set_option maxHeartbeats 4000000
/-! PL13: sorted of ints, of texts, of a set of ints. -/
namespace PL
open PySem PySem.Spec L2
variable {wW : World}
def intsD : List D → Option (List Int)
  | [] => some []
  | .int x :: ds => (intsD ds).map (x :: ·)
  | _ => none
theorem ints_rep {K : PySem.W.Frag} {G : Hp} {μ : Mu} : ∀ {vs : List V} {ds : List D} {xs : List Int}, RepL K G μ vs ds → intsD ds = some xs → vs = xs.map V.int
  | _, [], _, .nil, h => by unfold intsD at h; cases h; rfl
  | _, _ :: ds, _, .cons (.int b) r, h => by
    unfold intsD at h
    cases e : intsD ds with
    | none => rw [e] at h; cases h
    | some bs => rw [e] at h; cases h; rw [ints_rep r e]; rfl
  | _, _ :: _, _, .cons .non _, h => by unfold intsD at h; cases h
  | _, _ :: _, _, .cons (.str _) _, h => by unfold intsD at h; cases h
  | _, _ :: _, _, .cons (.bl _) _, h => by unfold intsD at h; cases h
  | _, _ :: _, _, .cons (.tup _ _) _, h => by unfold intsD at h; cases h
  | _, _ :: _, _, .cons (.lst _ _) _, h => by unfold intsD at h; cases h
  | _, _ :: _, _, .cons (.frz _ _) _, h => by unfold intsD at h; cases h
  | _, _ :: _, _, .cons (.ref _) _, h => by unfold intsD at h; cases h
theorem rep_ints {K : PySem.W.Frag} {G : Hp} {μ : Mu} : ∀ (xs : List Int), RepL K G μ (xs.map V.int) (xs.map D.int)
  | [] => .nil
  | x :: xs => .cons (.int x) (rep_ints xs)
theorem intsD_len : ∀ {ds : List D} {xs : List Int}, intsD ds = some xs → xs.length = ds.length
  | [], _, h => by unfold intsD at h; cases h; rfl
  | d :: ds, xs, h => by
    cases d <;> unfold intsD at h <;> try cases h
    cases e : intsD ds with
    | none => rw [e] at h; cases h
    | some bs => rw [e] at h; cases h; rw [List.length_cons, List.length_cons, intsD_len e]
theorem strsD_len : ∀ {ds : List D} {xs : List Str}, strsD ds = some xs → xs.length = ds.length
  | [], _, h => by unfold strsD at h; cases h; rfl
  | d :: ds, xs, h => by
    cases d <;> unfold strsD at h <;> try cases h
    cases e : strsD ds with
    | none => rw [e] at h; cases h
    | some bs => rw [e] at h; cases h; rw [List.length_cons, List.length_cons, strsD_len e]
/-! ### orders -/
def leS (a b : Str) : Bool := !ltCps b.cps.toList a.cps.toList
theorem leS_iff (a b : Str) : leS a b = true ↔ a.cps.toList ≤ b.cps.toList := by
  unfold leS
  rw [PyProof.Rows.ltCps_eq]
  simp [List.not_lt]
theorem leS_trans (a b c : Str) (h1 : leS a b = true) (h2 : leS b c = true) : leS a c = true := by
  rw [leS_iff] at *
  exact List.le_trans h1 h2
theorem leS_total (a b : Str) : (leS a b || leS b a) = true := by
  rw [Bool.or_eq_true, leS_iff, leS_iff]
  exact List.le_total _ _
theorem leS_anti {a b : Str} (h1 : leS a b = true) (h2 : leS b a = true) : a = b := by
  rw [leS_iff] at *
  have e : a.cps.toList = b.cps.toList := List.le_antisymm h1 h2
  cases a; cases b
  exact congrArg Str.mk (Array.toList_inj.mp e)
def sortI (ns : List Int) : List Int := ns.mergeSort fun a b => decide (a ≤ b)
def sortS (xs : List Str) : List Str := xs.mergeSort leS
theorem sortI_eq {ns ns' : List Int} (p : ns'.Perm ns) (h : ns'.Pairwise (· ≤ ·)) : ns' = sortI ns := by
  have hp : (sortI ns).Pairwise (· ≤ ·) := (List.pairwise_mergeSort (le := fun a b : Int => decide (a ≤ b)) (fun a b c h1 h2 => by simp at *; omega) (fun a b => by simp; omega) ns).imp fun h => of_decide_eq_true h
  exact List.Perm.eq_of_pairwise (fun a b _ _ h1 h2 => Int.le_antisymm h1 h2) h hp (p.trans (List.mergeSort_perm ns _).symm)
theorem pairS : ∀ {l : List Str}, PyProof.Rows.sortedS l = true → l.Pairwise fun a b => leS a b = true
  | [], _ => .nil
  | [x], _ => List.pairwise_singleton _ _
  | x :: y :: r, h => by
    have h' : (leS x y && PyProof.Rows.sortedS (y :: r)) = true := h
    rw [Bool.and_eq_true] at h'
    have ih := pairS h'.2
    refine .cons (fun z hz => ?_) ih
    rcases List.mem_cons.mp hz with e | e
    · rw [e]; exact h'.1
    · exact leS_trans _ _ _ h'.1 ((List.pairwise_cons.mp ih).1 z e)
theorem sortS_eq {xs ys : List Str} (p : ys.Perm xs) (h : PyProof.Rows.sortedS ys = true) : ys = sortS xs :=
  List.Perm.eq_of_pairwise (le := fun a b => leS a b = true) (fun a b _ _ h1 h2 => leS_anti h1 h2) (pairS h) (List.pairwise_mergeSort leS_trans leS_total xs) (p.trans (List.mergeSort_perm xs _).symm)
/-- into a row that rises strictly -/
def insU (x : Int) : List Int → List Int
  | [] => [x]
  | y :: l => if x < y then x :: y :: l else if x = y then y :: l else y :: insU x l
def uniqI (ns : List Int) : List Int := ns.foldr insU []
theorem mem_insU (x k : Int) : ∀ l : List Int, k ∈ insU x l ↔ k = x ∨ k ∈ l
  | [] => by simp [insU]
  | y :: l => by
    unfold insU
    split
    · simp
    · split
      · rename_i h; subst h; simp
      · rw [List.mem_cons, mem_insU x k l, List.mem_cons]
        constructor
        · rintro (h | h | h)
          · exact .inr (.inl h)
          · exact .inl h
          · exact .inr (.inr h)
        · rintro (h | h | h)
          · exact .inr (.inl h)
          · exact .inl h
          · exact .inr (.inr h)
theorem pair_insU (x : Int) : ∀ {l : List Int}, l.Pairwise (· < ·) → (insU x l).Pairwise (· < ·)
  | [], _ => List.pairwise_singleton _ _
  | y :: l, h => by
    obtain ⟨h1, h2⟩ := List.pairwise_cons.mp h
    unfold insU
    split
    · rename_i hx
      refine .cons (fun z hz => ?_) h
      rcases List.mem_cons.mp hz with e | e
      · omega
      · have := h1 z e; omega
    · split
      · exact h
      · rename_i n1 n2
        refine .cons (fun z hz => ?_) (pair_insU x h2)
        rcases (mem_insU x z l).mp hz with e | e
        · omega
        · exact h1 z e
theorem mem_uniqI (k : Int) : ∀ ns : List Int, k ∈ uniqI ns ↔ k ∈ ns
  | [] => by simp [uniqI]
  | n :: ns => by
    show k ∈ insU n (uniqI ns) ↔ _
    rw [mem_insU, mem_uniqI k ns, List.mem_cons]
theorem pair_uniqI : ∀ ns : List Int, (uniqI ns).Pairwise (· < ·)
  | [] => .nil
  | n :: ns => pair_insU n (pair_uniqI ns)
theorem strict_eq {l m : List Int} (h1 : l.Pairwise (· < ·)) (h2 : m.Pairwise (· < ·)) (h : ∀ k, k ∈ l ↔ k ∈ m) : l = m := by
  have nd : ∀ {l : List Int}, l.Pairwise (· < ·) → l.Nodup := fun h => h.imp fun h e => by omega
  exact List.Perm.eq_of_pairwise (le := fun a b : Int => a < b) (fun a b _ _ h1 h2 => by omega) h1 h2 ((List.perm_ext_iff_of_nodup (nd h1) (nd h2)).mpr h)
/-! ### sorted -/
def sortedM (d : D) : M D := match d with
  | .lst ds => guardM (decide (ds.length < 64)) (match intsD ds with
    | some ns => M.pure (.lst ((sortI ns).map D.int))
    | none => (opt (strsD ds)).bind fun xs => M.pure (.lst ((sortS xs).map D.str)))
  | _ => M.bad
def ssetM (d : D) : M D := match d with
  | .lst ds => (opt (intsD ds)).bind fun ns => guardM (decide (ds.length < 64)) (M.pure (.lst ((uniqI ns).map D.int)))
  | _ => M.bad
section
variable {X : Cx} {E : XK} {H0 : Hp} {a : Expr} {f : En → M D} {pos p p2 q : Pos}
theorem call_sortedA : CallR X (.builtin "sorted") (fun xs H Q => rSorted X.K xs H Q ∨ rSortedS X.K xs H Q) := cr_sorted.or cr_sortedS
theorem c_sorted : C1J X E (fun xs H Q => rSorted X.K xs H Q ∨ rSortedS X.K xs H Q) sortedM := fun H G μ st x dx Q w rx h => by
  cases dx with
  | lst ds =>
    obtain ⟨c, h⟩ := Post.guard h
    have c := of_decide_eq_true c
    obtain ⟨l, vs, rfl, hl, r⟩ := rx.lst w.imm
    cases hi : intsD ds with
    | some ns =>
      rw [hi] at h
      have e := ints_rep r hi
      subst e
      refine .inl ⟨l, ns, rfl, .inl (.inl hl), by rw [intsD_len hi]; exact c, fun ns' p hp hs hn => ?_⟩
      have e := sortI_eq hp hs
      subst e
      obtain ⟨w2, s2⟩ := w.new (o := .lst ((sortI ns).map V.int)) hn
      exact h _ _ _ _ w2 s2 (.lst upd_same (rep_ints _))
    | none =>
      rw [hi] at h
      obtain ⟨xs, hx, h⟩ := Post.opt h
      have e := strs_rep r hx
      subst e
      refine .inr ⟨l, xs, rfl, .inl (.inl hl), by rw [strsD_len hx]; exact c, fun ys p hp hs hn => ?_⟩
      have e := sortS_eq hp hs
      subst e
      obtain ⟨w2, s2⟩ := w.new (o := .lst ((sortS xs).map V.str)) hn
      exact h _ _ _ _ w2 s2 (.lst upd_same (rep_strs _))
  | _ => exact h.elim
def rSetI (K : PySem.W.Frag) (w : World) : List V → Hp → VK → Prop := fun xs H Q => ∃ (p : Addr) (ns : List Int), xs = [V.ref p] ∧ SqL K H p (ns.map V.int) ∧ ns.length < 64 ∧ ∀ (l : Addr) (c : Nat), H l = none → c ≤ ns.length → Q (.ref l) (upd H l (SetO w l (fun j => decide (j ∈ ns)) c))
theorem cr_setI (hc : X.calm = true) : CallR X (.type "set") (rSetI X.K X.w) := by
  intro pins s σ H vs us Q I r h
  obtain ⟨l, ns, rfl, hs, h64, k⟩ := h
  obtain ⟨its, rv, hl, _⟩ := I.list hs
  rw [Vals.ref1 r]
  refine set_of_ints ns (I.ok.hd hc) hl.isList (by simpa using rv.ints) (by unfold scanBound; omega) fun h' tk c R hcn kp => ?_
  exact ⟨.ref _, upd H s.heap.objs.size (SetO X.w s.heap.objs.size (fun j => decide (j ∈ ns)) c), I.laid (t' := tk) kp (Nat.le_refl _) (setO_new R), rfl, k _ c (I.hok.fresh (Nat.le_refl _)) hcn⟩
theorem je_sset (hc : X.calm = true) (hg : Gl X "sorted") (hm : X.mg "sorted" = none) (hg2 : Gl X "set") (hm2 : X.mg "set" = none) (ha : JB X E H0 f a)
    (hs : starEach [a] X.env = (false, eval a X.env) :: starEach [] X.env := by rfl) (hs2 : starEach [.Call (.Name "set" p2) [a] [] q] X.env = (false, eval (.Call (.Name "set" p2) [a] [] q) X.env) :: starEach [] X.env := by rfl) :
    JE X E H0 (e1 ssetM f) (.Call (.Name "sorted" p) [.Call (.Name "set" p2) [a] [] q] [] pos) := by
  refine PE.imp (pe_callB (cr_sortedSet hc) hg hm (by decide +kernel) (pa_one (pe_callTy (cr_setI hc) hg2 hm2 (by decide +kernel) (pa_one ha hs) (by decide) (by decide) hs rfl) hs2) (by decide) (by decide) hs2 rfl) fun σ H Q ⟨G, μ, st, ρ, w, er, k⟩ => ?_
  refine ⟨G, μ, st, ρ, w, er, Post.bind k fun d st1 x H1 G1 μ1 w1 s1 r1 k1 => ?_⟩
  cases d with
  | lst ds =>
    obtain ⟨ns, hi, k1⟩ := Post.opt k1
    obtain ⟨c, k1⟩ := Post.guard k1
    have c := of_decide_eq_true c
    obtain ⟨l, vs, rfl, hl, r⟩ := r1.weak.lst w1.imm
    have e := ints_rep r hi
    subst e
    have hlen : ns.length < 64 := by rw [intsD_len hi]; exact c
    refine ⟨l, ns, rfl, .inl (.inl hl), hlen, fun t n ht hn => ?_⟩
    obtain ⟨w2, s2⟩ := w1.lay (o := SetO X.w t (fun j => decide (j ∈ ns)) n) ht
    refine ⟨t, _, n, rfl, upd_same, by omega, fun ns' p2 hp hmem hlen' hn2 => ?_⟩
    have e : ns' = uniqI ns := strict_eq hp (pair_uniqI ns) fun k => by rw [mem_uniqI, hmem]; simp
    subst e
    obtain ⟨w3, s3⟩ := w2.new (o := .lst ((uniqI ns).map V.int)) hn2
    exact k1 _ _ _ _ w3 (s2.trans s3) (.lst upd_same (rep_ints _))
  | _ => exact k1.elim
end
end PL

set_option linter.all false
set_option maxRecDepth 100000
set_option maxHeartbeats 4000000
/-! PL14: lists of the store: made, looked at, appended to, written at a place; own lists written at a place; defs with defaults. -/
namespace PL
open PySem PySem.Spec L2
variable {wW : World}
/-- the list of the store -/
def lstAt (n : Nat) : M (List D) := fun st => match st[n]? with
  | some (.lst ds) => .ok ds st
  | _ => .bad
/-- a list of the store as it stands now -/
def deref (d : D) : M D := match d with
  | .ref n => (lstAt n).bind fun ds => M.pure (.lst ds)
  | d => M.pure d
def dr1 (p : D → M D) (d : D) : M D := (deref d).bind p
def drL (p : D → D → M D) (x y : D) : M D := (deref x).bind fun x => p x y
def drR (p : D → D → M D) (x y : D) : M D := (deref y).bind fun y => p x y
section
variable {X : Cx} {E : XK} {H0 : Hp} {e a b c o i : Expr} {f g h : En → M D} {fl : En → M (List D)} {pos p p0 : Pos} {Φ : Ent} {x : Str} {ga : En → M (List D)}
theorem Post.lstAt {α β : Type} {K : PySem.W.Frag} {mg : Str → Option Value} {R : RR β α} {H G : Hp} {μ : Mu} {n : Nat} {k : List D → M α} {st : Sto} {Q : β → Hp → Prop} (q : Post wW K mg E R H G μ ((PL.lstAt n).bind k st) Q) : ∃ ds, st[n]? = some (.lst ds) ∧ Post wW K mg E R H G μ (k ds st) Q := by
  unfold M.bind PL.lstAt at q
  cases e : st[n]? with
  | none => rw [e] at q; exact q.elim
  | some o =>
    rw [e] at q
    cases o with
    | lst ds => exact ⟨ds, rfl, q⟩
    | dict _ => exact q.elim
    | ins _ _ => exact q.elim
    | tab _ _ => exact q.elim
    | nd _ => exact q.elim
theorem Rep.lstAt {K : PySem.W.Frag} {H G : Hp} {μ : Mu} {st : Sto} {v : V} {n : Nat} {ds : List D} (r : Rep K G μ v (.ref n)) (w : Wd wW K H G μ st) (hs : st[n]? = some (.lst ds)) : ∃ l vs, v = .ref l ∧ μ n = some l ∧ H l = some (.lst vs) ∧ RepL K G μ vs ds := by
  cases r with
  | ref hm =>
    obtain ⟨l, h1, h2, h3⟩ := w.obj n _ hs
    rw [hm] at h1; cases h1
    obtain ⟨vs, h4, h5⟩ := h3
    exact ⟨_, vs, rfl, hm, h4, h5⟩
theorem BRep.deref {α β : Type} {K : PySem.W.Frag} {mg : Str → Option Value} {R : RR β α} {H G : Hp} {μ : Mu} {st : Sto} {v : V} {d : D} {k : D → M α} {Q : β → Hp → Prop} (r : BRep K H G μ v d) (w : Wd wW K H G μ st) (q : Post wW K mg E R H G μ ((PL.deref d).bind k st) Q) : ∃ d', BRep K H G μ v d' ∧ Post wW K mg E R H G μ (k d' st) Q := by
  cases d with
  | ref n =>
    have q' : Post wW K mg E R H G μ (((PL.lstAt n).bind fun ds => M.pure (.lst ds)).bind k st) Q := q
    rw [M.bind_assoc] at q'
    obtain ⟨ds, hs, q2⟩ := Post.lstAt q'
    rcases r with r | ⟨_, _, _, _, z, _⟩
    · obtain ⟨l, vs, rfl, _, h4, h5⟩ := r.lstAt w hs
      exact ⟨.lst ds, .inr ⟨l, vs, ds, rfl, rfl, h4, h5, trivial⟩, q2⟩
    · cases z
  | _ => exact ⟨_, r, q⟩
theorem dr_c {r : List V → Hp → VK → Prop} {p : D → M D} (hp : C1J X E r p) : C1J X E r (dr1 p) := fun H G μ st x dx Q w rx h => by
  obtain ⟨d', r', h'⟩ := rx.deref w h
  exact hp H G μ st x d' Q w r' h'
theorem dr_l {r : R2} {p : D → D → M D} (hp : OpJ X E r p) : OpJ X E r (drL p) := fun H G μ st x y dx dy Q w rx ry h => by
  obtain ⟨d', r', h'⟩ := rx.deref w h
  exact hp H G μ st x y d' dy Q w r' ry h'
theorem dr_r {r : R2} {p : D → D → M D} (hp : OpJ X E r p) : OpJ X E r (drR p) := fun H G μ st x y dx dy Q w rx ry h => by
  obtain ⟨d', r', h'⟩ := ry.deref w h
  exact hp H G μ st x y dx d' Q w rx r' h'
/-- a list that is made comes into the store -/
def eNew (fl : En → M (List D)) : En → M D := fun ρ => (fl ρ).bind fun ds => newOb (.lst ds)
theorem JF.new (hf : JF X E H0 fl e) : JE X E H0 (eNew fl) e := PE.imp hf fun σ H Q ⟨G, μ, st, ρ, w, er, q⟩ =>
  ⟨G, μ, st, ρ, w, er, Post.raw q fun ds st1 v H1 G1 μ1 w1 s1 r1 q1 => by
    obtain ⟨a, vs, rfl, h1, h2, h3, h4, h5⟩ := r1
    have hx : OR X.w X.K G1 (muAdd μ1 st1.length a) (upd H1 a (.lst vs)) a (.lst ds) := ⟨vs, upd_same, h2.mono (fun _ _ h => h) fun n b h => by
      have := w1.dom n b h
      unfold muAdd; rw [if_neg (by omega)]; exact h⟩
    have eH : upd H1 a (.lst vs) = H1 := by
      funext b
      by_cases hb : b = a
      · subst hb; rw [upd_same, h1]
      · rw [upd_ne hb]
    have w2 := w1.adopt (o := .lst vs) h3 h4 hx
    have s2 := s1.adopt (o := .lst vs) w1 h5
    rw [eH] at w2 s2
    exact q1 _ _ _ _ w2 s2 (.ref (by unfold muAdd; rw [if_pos rfl]))⟩
/-- the store's list in slot i -/
def refS (i : Nat) (ρ : En) : Option Nat := match ρ[i]? with
  | some (.val (.ref n)) => some n
  | _ => none
/-- what is written into a list of the store -/
def sLput (i : Nat) (f : En → M D) (k : List D → D → M (List D)) : En → M (Fl × En) := fun ρ => (opt (refS i ρ)).bind fun n => (lstAt n).bind fun _ => (f ρ).bind fun d => (lstAt n).bind fun ds => (k ds d).bind fun es => (setAt n (.lst es)).bind fun _ => M.pure (.nx, ρ)
theorem refS_eq {i n : Nat} {ρ : En} (h : refS i ρ = some n) : ρ[i]? = some (.val (.ref n)) := by
  unfold refS at h
  cases e : ρ[i]? with
  | none => rw [e] at h; cases h
  | some s =>
    rw [e] at h
    cases s with
    | no => cases h
    | own _ => cases h
    | val d => cases d <;> cases h; rfl
def appK (ds : List D) (d : D) : M (List D) := (line (ds.length + 1)).bind fun _ => M.pure (ds ++ [d])
theorem PostS.lstAt {n : Nat} {k : List D → M (Fl × En)} {st : Sto} {Dn : Ends} (q : PostS X E Φ Dn ((PL.lstAt n).bind k st)) : ∃ ds, st[n]? = some (.lst ds) ∧ PostS X E Φ Dn (k ds st) := by
  unfold M.bind PL.lstAt at q
  cases e : st[n]? with
  | none => rw [e] at q; exact q.elim
  | some o =>
    rw [e] at q
    cases o with
    | lst ds => exact ⟨ds, rfl, q⟩
    | dict _ => exact q.elim
    | ins _ _ => exact q.elim
    | tab _ _ => exact q.elim
    | nd _ => exact q.elim
theorem lput_end {Dn : Ends} {ρ : En} {σ : L2.St} {H G : Hp} {μ : Mu} {st : Sto} {n : Nat} {ds es : List D} {l : Addr} (w : Wd X.w X.K H G μ st) (er : ER X.K H G μ Φ.H ρ σ) (s : Stp Φ.H Φ.G Φ.μ H G μ) (hs : st[n]? = some (.lst ds)) (hm : μ n = some l)
    (q : PostS X E Φ Dn ((setAt n (.lst es)).bind (fun _ => M.pure (.nx, ρ)) st)) (ws : List V) (r : RepL X.K G μ ws es) : Dn.nx σ (upd H l (.lst ws)) := by
  have q' : PostS X E Φ Dn (.ok (.nx, ρ) (st.set n (.lst es))) := q
  obtain ⟨w2, s2⟩ := w.write (x := .lst es) (o := .lst ws) hs hm ⟨ws, upd_same, r⟩
  exact q' _ _ _ _ w2 (er.step s2) (s.trans s2)
theorem js_appR {i : Nat} {p1 p2 pc ps : Pos} (hN : X.N[i]? = some x) (hv : Vis X.env.scope x) (he : JE X E Φ.H f e) (hd : (x == ("__debug__" : Str)) = false := by decide) (hcd : (x == ("__classdict__" : Str)) = false := by decide)
    (hb : ∀ {to : TE} {t : TA}, PE X (.Name x p1) to → PA X [e] t → PE X (.Call (.Attribute (.Name x p1) "append" p2) [e] [] pc) (tBM X.K "list" rAppend to t)) (ha : starEach [e] X.env = (false, eval e X.env) :: starEach [] X.env := by rfl)
    (hs : swapsWith (.Call (.Attribute (.Name x p1) "append" p2) [e] [] pc) none ps.line X.env = pure false := by rfl) : JS X E Φ (sLput i f appK) (.Expr (.Call (.Attribute (.Name x p1) "append" p2) [e] [] pc) ps) := by
  refine PS.imp (ps_expr (hb (pe_var hN hv hd hcd) (pa_one he ha)) hs) fun Dn σ H ⟨G, μ, st, ρ, w, er, s, q⟩ => ?_
  unfold sLput at q
  obtain ⟨n, hi, q⟩ := PostS.opt q
  obtain ⟨ds0, hs0, q⟩ := q.lstAt
  obtain ⟨v, hv1, rv⟩ := er.val i _ (refS_eq hi)
  obtain ⟨l, vs, rfl, hm, hl, _⟩ := rv.lstAt w hs0
  refine ⟨_, hv1, .inl ⟨rfl, _, .inl (.inl hl)⟩, G, μ, st, ρ, w, er, q.bind s fun d st1 v H1 G1 μ1 w1 s1 t1 r1 q1 => ?_⟩
  obtain ⟨ds, hs, q1⟩ := q1.lstAt
  unfold appK at q1
  rw [M.bind_assoc] at q1
  obtain ⟨hz, q1⟩ := q1.line
  obtain ⟨l', vs', e1, hm1, hl1, r2⟩ := (rv.mono s1.g s1.m).lstAt w1 hs
  cases e1
  exact ⟨_, vs', v, rfl, rfl, hl1, by rw [RepL.length r2]; omega, lput_end w1 (er.step s1) t1 hs hm1 q1 _ (r2.append (.cons r1 .nil))⟩
/-! ### x[i] = v -/
/-- the place of a list that is written -/
def setK (z : Int) (ds : List D) (d : D) : M (List D) := (opt (ixN ds.length z)).bind fun j => M.pure (ds.set j d)
def sLset (i : Nat) (gi f : En → M D) : En → M (Fl × En) := fun ρ => (f ρ).bind fun d => (opt (refS i ρ)).bind fun n => (gi ρ).bind fun z => (opt (match z with | .int z => some z | _ => none)).bind fun z => (lstAt n).bind fun ds => (setK z ds d).bind fun es => (setAt n (.lst es)).bind fun _ => M.pure (.nx, ρ)
def sOset (i : Nat) (gi f : En → M D) : En → M (Fl × En) := fun ρ => (f ρ).bind fun d => (opt (match ρ[i]? with | some (.own ds) => some ds | _ => none)).bind fun ds => (gi ρ).bind fun z => (opt (match z with | .int z => some z | _ => none)).bind fun z => (setK z ds d).bind fun es => put i (.own es) ρ
theorem js_lset {j : Nat} {x : Str} {p1 ps po : Pos} (hN : X.N[j]? = some x) (hv : Vis X.env.scope x) (hi : JE X E Φ.H g i) (he : JE X E Φ.H f e) (hd : (x == ("__debug__" : Str)) = false := by decide) (hcd : (x == ("__classdict__" : Str)) = false := by decide)
    (ha : ∀ v, assign (.Subscript (.Name x p1) i po) X.env v = (do
      let ov ← holding [v] (eval (.Name x p1) X.env)
      let iv ← holding [v, ov] (eval i X.env)
      standAt po
      holding [v, ov, iv] (setItem ov iv v)
      release [v, ov, iv] []) := by intro _; rfl)
    (hs : swapsWithSole [.Subscript (.Name x p1) i po] e ps.line X.env = pure false := by rfl) (hw : swappedStores [.Subscript (.Name x p1) i po] e X.env = pure none := by rfl)
    (h1 : (assignEach [.Subscript (.Name x p1) i po] X.env).map (·.2) = [assign (.Subscript (.Name x p1) i po) X.env] := by rfl) :
    JS X E Φ (sLset j g f) (.Assign [.Subscript (.Name x p1) i po] e ps) := by
  refine PS.imp (ps_asg he (pg_sub (pe_var hN hv hd hcd) hi set_list ha) hs hw h1) fun Dn σ H ⟨G, μ, st, ρ, w, er, s, q⟩ => ?_
  refine ⟨G, μ, st, ρ, w, er, q.bind s fun d st1 v H1 G1 μ1 w1 s1 t1 r1 q1 => ?_⟩
  obtain ⟨n, hj, q1⟩ := PostS.opt q1
  obtain ⟨u, hu, ru⟩ := (er.step s1).val j _ (refS_eq hj)
  refine ⟨u, hu, G1, μ1, st1, ρ, w1, er.step s1, q1.bind t1 fun dz st2 z H2 G2 μ2 w2 s2 t2 r2 q2 => ?_⟩
  obtain ⟨k, hk, q2⟩ := PostS.opt q2
  cases r2 with
  | int z =>
    cases hk
    obtain ⟨ds, hs2, q2⟩ := q2.lstAt
    unfold setK at q2
    rw [M.bind_assoc] at q2
    obtain ⟨m, hm, q2⟩ := PostS.opt q2
    obtain ⟨l, vs, rfl, hm1, hl, r3⟩ := (ru.mono s2.g s2.m).lstAt w2 hs2
    exact ⟨l, vs, _, m, rfl, rfl, hl, by rw [RepL.length r3]; exact hm, lput_end w2 ((er.step s1).step s2) t2 hs2 hm1 q2 _ (RepL.set (r1.mono s2.g s2.m) m r3)⟩
  | _ => cases hk
end
/-! ### defs with defaults -/
structure OwnD (P : Program) (w : World) (K : PySem.W.Frag) (mg : Str → Option Value) (base : Heap) (k : Nat) (x : Str) (ps : List Str) (sem : List D → M D) (dvs : List V) : Prop where
  ex : ∃ fa fd, FnOk P w K mg base (L2.CX P w) k fa fd ps (SpOf w K mg ps.length sem) ∧ mg x = some (.ref fa) ∧ PySem.W.keepIn K (.ref fa) = true ∧ ∃ ds, Vals dvs ds ∧ Binds K fd ps ds
structure FnD (K : PySem.W.Frag) (mg : Str → Option Value) (x : Str) (st : Stmt) (ps : List Str) (dvs : List V) : Prop where
  ex : ∃ fa fd, Fun K x x st fa fd ∧ mg x = some (.ref fa) ∧ ∃ ds, Vals dvs ds ∧ Binds K fd ps ds
theorem own_defD {P : Program} {w : World} {K : PySem.W.Frag} {mg : Str → Option Value} {base : Heap} {k : Nat} {x : Str} {st : Stmt} {N ps : List Str} {f : En → M (Fl × En)} {dvs : List V} (F : FnD K mg x st ps dvs) (S : FnScope N ps (defScope st))
    (body : ∀ (fa : Addr) (cdv : Value) (A : Around) (outer : List Env) (s : Shared) (H G : Hp) (μ : Mu) (E : XK), Room k (A.deeper (PyProof.Rows.envOfC x (defScope st) s.heap.objs.size fa cdv)) →
      JSs (cxOf (L2.CX P w) P w K mg base N x (defScope st) fa cdv A outer s H E) E ⟨H, G, μ⟩ f (defBody st)) :
    OwnD P w K mg base (k + 1) x ps (runB N.length f) dvs := by
  obtain ⟨fa, fd, F, m, b⟩ := F.ex
  exact ⟨fa, fd, def_ok F S (body fa), m, F.kp, b⟩
section
variable {X : Cx} {E : XK} {H0 : Hp} {e : Expr} {es : List Expr} {pos p : Pos} {x : Str} {ga : En → M (List D)}
/-- a call that leaves the last ones to their defaults -/
def eCallD (n : Nat) (dds : List D) (sem : List D → M D) (g : En → M (List D)) : En → M D := eCall n sem fun ρ => (g ρ).bind fun ds => M.pure (ds ++ dds)
theorem jcallD {k n : Nat} {ps : List Str} {sem : List D → M D} {dvs : List V} {dds : List D} (C : OwnD X.prog X.w X.K X.mg X.base k x ps sem dvs) (hr : Room k X.A) (hx : Passes (L2.CX X.prog X.w) X E) (ha : JA X E H0 ga (e :: es)) (hdd : ∀ G μ, RepL X.K G μ dvs dds) (hg : Gl X x := by rfl) (hdb : (x == ("__debug__" : Str)) = false := by decide)
    (he : starEach (e :: es) X.env = (false, eval e X.env) :: starEach es X.env := by rfl) (hpl : (backTo pos (starEach es X.env)).any (·.1) = false := by rfl) (hn : ps.length = n := by rfl) : JE X E H0 (eCallD n dds sem ga) (.Call (.Name x p) (e :: es) [] pos) := by
  subst hn
  obtain ⟨fa, fd, F, m, kp, ds, rv, b⟩ := C.ex
  refine PE.imp (pe_call F hr hg m kp b rv hx ha hdb he hpl) fun σ H Q ⟨G, μ, st, ρ, w, er, q⟩ => ?_
  have q' : Post X.w X.K X.mg E (rRep X.K) H G μ (((ga ρ).bind fun ds => if (ds ++ dds).length = ps.length then sem (ds ++ dds) else M.bad) st) Q := by
    have e : eCallD ps.length dds sem ga ρ = (ga ρ).bind fun ds => if (ds ++ dds).length = ps.length then sem (ds ++ dds) else M.bad := M.bind_assoc _ _ _
    rw [← e]; exact q
  refine ⟨G, μ, st, ρ, w, er, Post.bind q' fun ds st1 vs H1 G1 μ1 w1 s1 r1 q1 => ?_⟩
  by_cases h : (ds ++ dds).length = ps.length
  · rw [if_pos h] at q1
    exact ⟨G1, μ1, st1, ds ++ dds, w1, r1.append (hdd G1 μ1), h, q1⟩
  · rw [if_neg h] at q1
    exact q1.elim
end
end PL
namespace PL
open PySem PySem.Spec L2
variable {wW : World}
/-- nothing is promised yet -/
theorem own_zero {P : Program} {w : World} {K : PySem.W.Frag} {mg : Str → Option Value} {base : Heap} {x : Str} {st : Stmt} {ps : List Str} (k : Nat) (F : Fn0 K mg x st ps) : Own P w K mg base k x ps fun _ => M.bad := by
  obtain ⟨fa, fd, F, m, b⟩ := F.ex
  exact ⟨fa, fd, ⟨fun vs H Q E ⟨_, _, _, _, _, _, _, q⟩ => q.elim, fun A outer s H args us vs Q E hr he hb hv ⟨_, _, _, _, _, _, _, q⟩ => q.elim⟩, m, F.kp, b, Fun.lk F⟩
end PL
namespace PL
open PySem PySem.Spec L2
variable {wW : World}
/-- name = [..] on one line, the list given out at once -/
theorem js_setLc {X : Cx} {E : XK} {Φ : Ent} {it : En → M (List D)} {pt : Pt} {tt : En → M Bool} {te : En → M D} {elt tg iter : Expr} {ifs : List Expr} {scope : Scope} {own : List (Str × Nat)} {pos : Pos} {i : Nat} {y : Str} {py spos : Pos} (hc : X.calm = true) (hN : X.N.Nodup) (hy : X.N[i]? = some y) (hyl : X.env.scope.names.lookup y = some .local)
    (hsw : swapsWith (.ListComp elt [⟨tg, iter, ifs, 0⟩] scope pos) (some (.Name y py)) spos.line X.env = pure true) (hi : JI X E Φ.H tg it iter) (ok : BlkOk X.N X.env.scope scope own) (hv : ∀ i ∈ pt.slots, i ∈ own.map (·.2))
    (hg : ∀ (s : Shared) (H : Hp) (C : Addr) (cl : List (Str × Addr)) (fp : List Addr), PG (X.blk s H scope (compEnvC scope cl C X.env) fp) tg (pt.g X.K))
    (ht : ∀ (s : Shared) (H : Hp) (C : Addr) (cl : List (Str × Addr)) (fp : List Addr), JTs (X.blk s H scope (compEnvC scope cl C X.env) fp) xNo Φ.H tt ifs)
    (he : ∀ (s : Shared) (H : Hp) (C : Addr) (cl : List (Str × Addr)) (fp : List Addr), JE (X.blk s H scope (compEnvC scope cl C X.env) fp) xNo Φ.H te elt) (hs : ∀ x, foldedSetIterable iter X.env x = pure x := by intro _; rfl) :
    JS X E Φ (sSet i (eL (eLc it pt (own.map (·.2)) tt te))) (.Assign [.Name y py] (.ListComp elt [⟨tg, iter, ifs, 0⟩] scope pos) spos) := by
  refine PS.imp (ps_setLc (tt := Se X xNo Φ.H rTrue tt) (te := Se X xNo Φ.H (rRep X.K) te) hc hN hy hyl hsw hi ok hg ht he hs) fun Dn σ H ⟨G, μ, st, ρ, w, er, s, p⟩ => ?_
  have p' : PostS X E Φ Dn (((eLc it pt (own.map (·.2)) tt te ρ).bind fun ds => put i (.val (.lst ds)) ρ) st) := by
    have e : sSet i (eL (eLc it pt (own.map (·.2)) tt te)) ρ = (eLc it pt (own.map (·.2)) tt te ρ).bind fun ds => put i (.val (.lst ds)) ρ := M.bind_assoc _ _ _
    rw [← e]; exact p
  refine lc_read hv _ _ _ ⟨G, μ, st, ρ, w, er, p'.bind s fun ds st' v H' G' μ' w' s' t' r q => ?_⟩
  obtain ⟨a, vs, rfl, h1, h2, h3, h4, h5⟩ := r
  exact put_val q (w'.freeze h1 h3 h4) (er.step (s'.freeze h3 h5)) (t'.freeze h3 (none_before s.th h5)) (.lst upd_same (h2.mono (subUpd h3) fun _ _ h => h))
end PL

set_option linter.all false
set_option maxRecDepth 100000
set_option maxHeartbeats 4000000
/-! PL15: from what the top has written to the defs and constants of the layer; the law's own start. -/
namespace PL
open PySem PySem.Spec L2
variable {wW : World}
section
variable {K : PySem.W.Frag} {h : Heap} {mg : Str → Option Value}
theorem fn0_of {x : Str} {st : Stmt} {f : Addr} {oc : Value} {od an : Option Addr} {osl : Array (Option Value)} {kV doc pm cdv ct : Value} (X : K.In h) (N : h.Ns mainGlobals mg) (ps : List Str) (a : PySem.W.nsIn K mainGlobals x = some (some (.ref f)))
    (l : K.lookup f = some ⟨oc, od, .func (PySem.W.fnOf x x (defArgs st) (defBody st) (defScope st) .none kV doc pm an cdv ct), osl⟩) (c : PySem.W.codeIn K cdv x = true) (k : PySem.W.keepIn K (.ref f) = true)
    (hb : ∀ (kV doc pm : Value) (an : Option Addr) (cdv ct : Value) (us : List Value), us.length = ps.length → bindArgs (PySem.W.fnOf x x (defArgs st) (defBody st) (defScope st) .none kV doc pm an cdv ct) ⟨us, []⟩ = pure (ps.zip us)) : Fn0 K mg x st ps :=
  ⟨f, _, fun_mk l c k, PySem.W.mg_of X N a, hb _ _ _ _ _ _⟩
/-- a def whose keyword-only parameters have ints for defaults -/
theorem fnD_of {x : Str} {st : Stmt} {f Dk : Addr} {oc : Value} {od an : Option Addr} {osl : Array (Option Value)} {doc pm cdv ct : Value} (X : K.In h) (N : h.Ns mainGlobals mg) (ps : List Str) (n : Nat) (kws : List (Str × Int)) (a : PySem.W.nsIn K mainGlobals x = some (some (.ref f)))
    (l : K.lookup f = some ⟨oc, od, .func (PySem.W.fnOf x x (defArgs st) (defBody st) (defScope st) .none (.ref Dk) doc pm an cdv ct), osl⟩) (c : PySem.W.codeIn K cdv x = true) (k : PySem.W.keepIn K (.ref f) = true)
    (hk : kws ≠ []) (hn : n + kws.length = ps.length) (hkw : ∀ q ∈ kws, ∃ t, PySem.W.nsIn K Dk q.1 = some (some (.int q.2 t)))
    (hb : ∀ (D : Addr) (doc pm : Value) (an : Option Addr) (cdv ct : Value) (us ks : List Value), us.length = n → ks.length = kws.length → KwChain D ((kws.map (·.1)).zip ks) (bindArgs (PySem.W.fnOf x x (defArgs st) (defBody st) (defScope st) .none (.ref D) doc pm an cdv ct) ⟨us, []⟩) (ps.zip (us ++ ks))) :
    FnD K mg x st ps (kws.map fun q => V.int q.2) := by
  have F : FunD K x x (defArgs st) (defBody st) (defScope st) [] (kws.map fun q => (q.1, V.int q.2)) f (PySem.W.fnOf x x (defArgs st) (defBody st) (defScope st) .none (.ref Dk) doc pm an cdv ct) :=
    ⟨⟨oc, od, .none, .ref Dk, doc, pm, an, cdv, ct, osl, rfl, l, c, .inl ⟨rfl, rfl⟩, .inr ⟨Dk, rfl, fun q hq => by
      obtain ⟨r, hr, rfl⟩ := List.mem_map.mp hq
      obtain ⟨t, e⟩ := hkw r hr
      exact ⟨_, e, t, rfl⟩⟩⟩, k⟩
  have e1 : (kws.map fun q => (q.1, V.int q.2)).map (·.1) = kws.map (·.1) := by rw [List.map_map]; rfl
  have e2 : (kws.map fun q => (q.1, V.int q.2)).map (·.2) = kws.map fun q => V.int q.2 := by rw [List.map_map]; rfl
  obtain ⟨ds, r, b⟩ := F.binds0 (ps := ps) n (by simpa using hk) (by simpa using hn) fun D doc pm an cdv ct us ks h1 h2 => by
    rw [e1]; exact hb D doc pm an cdv ct us ks h1 (by simpa using h2)
  exact ⟨f, _, fun_mk l c k, PySem.W.mg_of X N a, ds, by rw [← e2]; exact r, b⟩
theorem cn_str {x y : Str} {t : Tok} (X : K.In h) (N : h.Ns mainGlobals mg) (a : PySem.W.nsIn K mainGlobals x = some (some (.str y t))) : Cn mg K x (.str y) := ⟨.str y, _, PySem.W.mg_of X N a, ⟨t, rfl⟩, fun _ _ => .str y⟩
theorem cn_int {x : Str} {y : Int} {t : Tok} (X : K.In h) (N : h.Ns mainGlobals mg) (a : PySem.W.nsIn K mainGlobals x = some (some (.int y t))) : Cn mg K x (.int y) := ⟨.int y, _, PySem.W.mg_of X N a, ⟨t, rfl⟩, fun _ _ => .int y⟩
/-- a tuple of texts -/
theorem strs_vals {ys : List Str} {its : List Value} (hh : Paired (fun (y : Str) (v : Value) => ∃ t, v = .str y t) ys its) : Vals (ys.map V.str) its := by
  induction hh with
  | nil => exact .nil
  | cons h t ih => obtain ⟨k, rfl⟩ := h; exact .cons ⟨k, rfl⟩ ih
theorem cn_tupS {x : Str} {ys : List Str} {T : Addr} {od : Option Addr} {osl : Array (Option Value)} {its : Array Value} {n : Nat} (X : K.In h) (N : h.Ns mainGlobals mg) (a : PySem.W.nsIn K mainGlobals x = some (some (.ref T))) (l : K.lookup T = some ⟨.type "tuple", od, .seq its n, osl⟩)
    (hz : its.size ≤ sizeLine) (hh : Paired (fun (y : Str) (v : Value) => ∃ t, v = .str y t) ys its.toList) : Cn mg K x (.tup (ys.map D.str)) :=
  ⟨.ref T, _, PySem.W.mg_of X N a, rfl, fun _ _ => .tup (.inr ⟨_, its, n, l, rfl, rfl, hz, strs_vals hh⟩) (rep_strs ys)⟩
/-- the law's promise -/
def spLaw (K : PySem.W.Frag) : Sp := fun vs H Q _ => ∃ (a : Addr) (ns : List Int), vs = [.ref a] ∧ SqL K H a (ns.map V.int) ∧ ns.length ≤ 63 ∧ ∀ H', Q (.bl true) H'
theorem law_end {P : Program} {w : World} {base : Heap} {k : Nat} {fa : Addr} {fd : FuncData} {x : Str} {m : List D → M D} (F : FnOk P w K mg base (L2.CX P w) k fa fd [x] (SpOf w K mg 1 m)) (hm : ∀ ns : List Int, ns.length ≤ 63 → ∃ st, m [.frz (ns.map D.int)] [] = .ok (.bl true) st) :
    FnOk P w K mg base (L2.CX P w) k fa fd [x] (spLaw K) := F.imp fun vs H Q E ⟨a, ns, e, hs, hl, q⟩ => by
  subst e
  obtain ⟨st, hst⟩ := hm ns hl
  refine ⟨H, fun _ => none, [], [.frz (ns.map D.int)], ⟨fun _ _ h => h, fun n o h => by simp at h, fun _ _ _ h => by simp at h, fun _ _ h => by simp at h⟩, .cons (.frz hs (rep_ints ns)) .nil, rfl, ?_⟩
  rw [hst]
  intro v H' G' μ' _ _ r
  cases r
  exact q H'
/-- the law's def, whatever stands below -/
theorem own_law {P : Program} {w : World} {k : Nat} {fa : Addr} {x y : Str} {st : Stmt} {m : List D → M D} (hfa : mg x = some (.ref fa)) (hm : ∀ ns : List Int, ns.length ≤ 63 → ∃ st, m [.frz (ns.map D.int)] [] = .ok (.bl true) st) (F : Fn0 K mg x st [y])
    (O : ∀ base, Own P w K mg base k x [y] m) : ∃ fd, (∀ (s : Shared) (u : Value), BindsTo s fd ⟨[u], []⟩ [(y, u)]) ∧ ∀ base : Heap, K.In base → base.Ns mainGlobals mg → FnOk P w K mg base (L2.CX P w) k fa fd [y] (spLaw K) := by
  obtain ⟨fa1, fd, F, e, b⟩ := F.ex
  rw [hfa] at e; cases e
  refine ⟨fd, fun s u => .of_eq (b [u] rfl), fun base _ _ => ?_⟩
  obtain ⟨fa2, fd', F2, e, _, b2, oc, od, sl, l⟩ := (O base).ex
  rw [hfa] at e; cases e
  obtain ⟨oc1, od1, sl1, l1⟩ := Fun.lk F
  rw [l] at l1
  have e2 : fd' = fd := by injection l1 with h; injection h with _ _ h; injection h
  subst e2
  exact law_end F2 hm
theorem no_cx {P : Program} {w : World} {H : Hp} {s : Shared} {e : Value} {s' : Shared} (h : L2.CX P w [] H s (fun _ _ _ => False) e s') : False := by
  obtain ⟨_, _, _, _, _, _, _, _, _, _, _, _, h⟩ := h
  exact h
end
end PL

set_option linter.all false
set_option maxRecDepth 100000
set_option maxHeartbeats 4000000
/-! PW1: what stands behind m, if all goes well: rules by which a printed text is walked. -/
namespace PL
open PySem PySem.Spec L2
structure wp {α : Type} (m : M α) (Q : α → Sto → Prop) (st : Sto) : Prop where
  run : match m st with
  | .ok a s => Q a s
  | _ => False
theorem wp_is {α : Type} {m : M α} {Q : α → Sto → Prop} {st : Sto} : wp m Q st = (match m st with
  | .ok a s => Q a s
  | _ => False) := propext ⟨fun h => h.run, fun h => ⟨h⟩⟩
section
variable {α β : Type} {m : M α} {Q Q' : α → Sto → Prop} {st : Sto} {f : α → M β} {P : β → Sto → Prop}
theorem wp_pure {a : α} : wp (M.pure a) Q st = Q a st := wp_is
theorem wp_bad : wp (M.bad : M α) Q st = False := wp_is
theorem wp_bind : wp (m.bind f) P st = wp m (fun a s => wp (f a) P s) st := by
  rw [wp_is, wp_is]
  unfold M.bind
  cases m st <;> first | rfl | exact wp_is.symm
theorem wp_mono (h : wp m Q st) (k : ∀ a s, Q a s → Q' a s) : wp m Q' st := by
  rw [wp_is] at h ⊢
  cases e : m st with
  | ok a s => rw [e] at h; exact k a s h
  | err x s => rw [e] at h; exact h
  | bad => rw [e] at h; exact h
theorem wp_ok (h : wp m Q st) : ∃ a s, m st = .ok a s ∧ Q a s := by
  rw [wp_is] at h
  cases e : m st with
  | ok a s => rw [e] at h; exact ⟨a, s, rfl, h⟩
  | err x s => rw [e] at h; exact h.elim
  | bad => rw [e] at h; exact h.elim
theorem wp_of {a : α} {s : Sto} (e : m st = .ok a s) (h : Q a s) : wp m Q st := by rw [wp_is, e]; exact h
theorem wp_noX : wp (noX m) Q st = wp m Q st := by
  rw [wp_is, wp_is]
  unfold noX
  cases m st <;> rfl
theorem wp_guard {c : Bool} : wp (guardM c m) Q st = (c = true ∧ wp m Q st) := by
  unfold guardM
  by_cases h : c = true
  · rw [if_pos h]; simp [h]
  · rw [if_neg h]; simp [h, wp_bad]
theorem wp_opt {o : Option α} : wp (opt o) Q st = ∃ a, o = some a ∧ Q a st := by
  cases o with
  | none => simp [opt, wp_bad]
  | some a => simp [opt, wp_pure]
theorem wp_some {a : α} : wp (opt (some a)) Q st = Q a st := wp_is
theorem wp_line {n : Nat} {R : Unit → Sto → Prop} : wp (line n) R st = (n ≤ sizeLine ∧ R () st) := by
  rw [wp_is]
  unfold line
  by_cases h : n ≤ sizeLine
  · rw [if_pos h]; simp [h]
  · rw [if_neg h]; simp [h]
theorem wp_ite {c : Prop} [Decidable c] {m' : M α} : wp (if c then m else m') Q st = if c then wp m Q st else wp m' Q st := by split <;> rfl
theorem wp_itE {c : Prop} [Decidable c] {m' : M α} (h1 : c → wp m Q st) (h2 : ¬c → wp m' Q st) : wp (if c then m else m') Q st := by
  split
  · exact h1 ‹_›
  · exact h2 ‹_›
theorem wp_dictAt {n : Nat} {R : List (Key × D) → Sto → Prop} : wp (dictAt n) R st = ∃ kvs, st[n]? = some (.dict kvs) ∧ R kvs st := by
  rw [wp_is]
  unfold dictAt
  cases e : st[n]? with
  | none => simp
  | some o => cases o <;> simp
theorem wp_lstAt {n : Nat} {R : List D → Sto → Prop} : wp (lstAt n) R st = ∃ ds, st[n]? = some (.lst ds) ∧ R ds st := by
  rw [wp_is]
  unfold lstAt
  cases e : st[n]? with
  | none => simp
  | some o => cases o <;> simp
theorem wp_setAt {n : Nat} {o : Ob} {R : Unit → Sto → Prop} : wp (setAt n o) R st = R () (st.set n o) := wp_is
theorem wp_newOb {o : Ob} {R : D → Sto → Prop} : wp (newOb o) R st = R (.ref st.length) (st ++ [o]) := wp_is
theorem wp_put {i : Nat} {x : Slot} {ρ : En} {R : Fl × En → Sto → Prop} : wp (put i x ρ) R st = (i < ρ.length ∧ R (.nx, ρ.set i x) st) := by
  unfold put
  by_cases h : i < ρ.length
  · rw [if_pos h, wp_pure]; simp [h]
  · rw [if_neg h, wp_bad]; simp [h]
/-- a call of a def -/
theorem wp_call {n : Nat} {sem : List D → M D} {ds : List D} {R : D → Sto → Prop} (hl : ds.length = n) (h : wp (sem ds) R st) : wp (if ds.length = n then sem ds else M.bad) R st := by rw [if_pos hl]; exact h
/-- for: an invariant by what is still to come -/
theorem wp_for {bd : D → En → M (Fl × En)} {R : Fl × En → Sto → Prop} (I : List D → En → Sto → Prop) (hstep : ∀ d ds ρ s, I (d :: ds) ρ s → wp (bd d ρ) (fun r s' => match r.1 with
      | .nx => I ds r.2 s'
      | .ct => I ds r.2 s'
      | .brk => R (.nx, r.2) s'
      | .ret x => R (.ret x, r.2) s') s) (hend : ∀ ρ s, I [] ρ s → R (.nx, ρ) s) : ∀ (ds : List D) (ρ : En) (s : Sto), I ds ρ s → wp (forL bd ds ρ) R s
  | [], ρ, s, h => by unfold forL; rw [wp_pure]; exact hend ρ s h
  | d :: ds, ρ, s, h => by
    unfold forL
    rw [wp_bind]
    refine wp_mono (hstep d ds ρ s h) fun r s' k => ?_
    cases e : r.1 with
    | nx => rw [e] at k; exact wp_for I hstep hend ds r.2 s' k
    | ct => rw [e] at k; exact wp_for I hstep hend ds r.2 s' k
    | brk => rw [e] at k; rw [wp_pure]; exact k
    | ret x => rw [e] at k; rw [wp_pure]; exact k
/-- a comprehension without a test: each item by itself -/
theorem wp_lc {set : D → En → Option En} {tt : En → M Bool} {te : En → M D} {ρ : En} (I : List D → List D → Sto → Prop)
    (hstep : ∀ d ds acc s, I (d :: ds) acc s → wp ((opt (set d ρ)).bind fun ρ' => (tt ρ').bind fun b => if b = true then (te ρ').bind fun y => M.pure (some y) else M.pure none) (fun o s' => I ds (acc ++ o.toList) s') s) {R : List D → Sto → Prop} :
    ∀ (ds acc : List D) (s : Sto), I ds acc s → (∀ out s', I [] (acc ++ out) s' → R out s') → wp (lcL set tt te ρ ds) R s
  | [], acc, s, h, hend => by unfold lcL; rw [wp_pure]; exact hend [] s (by rw [List.append_nil]; exact h)
  | d :: ds, acc, s, h, hend => by
    unfold lcL
    rw [wp_bind]
    have h1 := hstep d ds acc s h
    rw [wp_bind] at h1
    refine wp_mono h1 fun ρ' s1 h2 => ?_
    rw [wp_bind] at h2 ⊢
    refine wp_mono h2 fun b s2 h3 => ?_
    by_cases hb : b = true
    · rw [if_pos hb] at h3 ⊢
      rw [wp_bind] at h3 ⊢
      refine wp_mono h3 fun y s3 h4 => ?_
      rw [wp_pure] at h4
      rw [wp_bind]
      exact wp_lc I hstep ds (acc ++ [y]) s3 h4 fun out s' k => by rw [wp_pure]; exact hend (y :: out) s' (by rw [List.append_assoc] at k; exact k)
    · rw [if_neg hb] at h3 ⊢
      rw [wp_pure] at h3
      exact wp_lc I hstep ds acc s2 (by simpa using h3) hend
end
/-! ### the store around one object -/
def Same (n : Nat) (s t : Sto) : Prop := t.length = s.length ∧ ∀ k, k ≠ n → t[k]? = s[k]?
theorem Same.refl (n : Nat) (s : Sto) : Same n s s := ⟨rfl, fun _ _ => rfl⟩
theorem Same.trans {n : Nat} {s t u : Sto} (a : Same n s t) (b : Same n t u) : Same n s u := ⟨b.1.trans a.1, fun k h => (b.2 k h).trans (a.2 k h)⟩
theorem Same.set {n : Nat} {s t : Sto} {o : Ob} (a : Same n s t) : Same n s (t.set n o) := ⟨by rw [List.length_set]; exact a.1, fun k h => by rw [List.getElem?_set_ne (Ne.symm h)]; exact a.2 k h⟩
end PL

set_option linter.all false
set_option maxRecDepth 100000
set_option maxHeartbeats 4000000
/-! PW2: the walk over a printed text, rule by rule. -/
namespace PL
open PySem PySem.Spec L2
/-! ### what follows -/
def SeqK (g : En → M (Fl × En)) (Q : Fl × En → Sto → Prop) : Fl × En → Sto → Prop := fun r s => match r.1 with
  | .nx => wp (g r.2) Q s
  | _ => Q r s
def RunK (Q : D → Sto → Prop) : Fl × En → Sto → Prop := fun r s => match r.1 with
  | .ret d => Q d s
  | .nx => Q .non s
  | _ => False
def BlK (Q : Bool → Sto → Prop) : D → Sto → Prop := fun d s => match d with
  | .bl b => Q b s
  | _ => False
def IfK (A B : Prop) (b : Bool) : Prop := (b = true → A) ∧ (b = false → B)
def StrK (Q : Str → Sto → Prop) : D → Sto → Prop := fun d s => match d with
  | .str b => Q b s
  | _ => False
def IntK (Q : Int → Sto → Prop) : D → Sto → Prop := fun d s => match d with
  | .int b => Q b s
  | _ => False
section
variable {Q : Fl × En → Sto → Prop} {R : D → Sto → Prop} {T : Bool → Sto → Prop} {A : List D → Sto → Prop} {st : Sto} {ρ : En} {f g h : En → M D} {s1 s2 : En → M (Fl × En)} {t u : En → M Bool} {ga : En → M (List D)} {P1 P2 : Prop}
theorem k_seq (k : wp (s2 ρ) Q st) : SeqK s2 Q (.nx, ρ) st := k
theorem k_seqR {d : D} (k : Q (.ret d, ρ) st) : SeqK s2 Q (.ret d, ρ) st := k
theorem k_seqB (k : Q (.brk, ρ) st) : SeqK s2 Q (.brk, ρ) st := k
theorem k_run {d : D} (k : R d st) : RunK R (.ret d, ρ) st := k
theorem k_runN (k : R .non st) : RunK R (.nx, ρ) st := k
theorem k_bl {b : Bool} (k : T b st) : BlK T (.bl b) st := k
theorem k_str {b : Str} {S : Str → Sto → Prop} (k : S b st) : StrK S (.str b) st := k
theorem k_int {b : Int} {S : Int → Sto → Prop} (k : S b st) : IntK S (.int b) st := k
theorem k_ifT (k : P1) : IfK P1 P2 true := ⟨fun _ => k, fun e => nomatch e⟩
theorem k_ifF (k : P2) : IfK P1 P2 false := ⟨fun e => (nomatch e), fun _ => k⟩
theorem k_if {b : Bool} (k1 : b = true → P1) (k2 : b = false → P2) : IfK P1 P2 b := ⟨k1, k2⟩
/-! ### bodies -/
theorem w_run {n : Nat} {ds : List D} (k : wp (s1 (ds.map Slot.val ++ List.replicate (n - ds.length) Slot.no)) (RunK R) st) : wp (runB n s1 ds) R st := by
  unfold runB
  rw [wp_bind]
  refine wp_mono k fun r s k => ?_
  obtain ⟨fl, ρ'⟩ := r
  cases fl <;> (first | exact k | exact ⟨k⟩ | (simp only [wp_pure, wp_some, wp_line, wp_bind]; exact k) | exact False.elim k | exact k.run.elim)
theorem w_run' {n : Nat} {ds : List D} (ρ : En) (e : ds.map Slot.val ++ List.replicate (n - ds.length) Slot.no = ρ) (k : wp (s1 ρ) (RunK R) st) : wp (runB n s1 ds) R st := w_run (by rw [e]; exact k)
theorem w_seq (k : wp (s1 ρ) (SeqK s2 Q) st) : wp (sSeq s1 s2 ρ) Q st := by
  unfold sSeq
  rw [wp_bind]
  refine wp_mono k fun r s k => ?_
  obtain ⟨fl, ρ'⟩ := r
  cases fl <;> (first | exact k | exact ⟨k⟩ | (simp only [wp_pure, wp_some, wp_line, wp_bind]; exact k) | exact False.elim k | exact k.run.elim)
theorem w_nil (k : Q (.nx, ρ) st) : wp (sNil ρ) Q st := by first | exact k | exact ⟨k⟩
theorem w_pass (k : Q (.nx, ρ) st) : wp (sPass ρ) Q st := by first | exact k | exact ⟨k⟩
theorem w_brk (k : Q (.brk, ρ) st) : wp (sBrk ρ) Q st := by first | exact k | exact ⟨k⟩
theorem w_ct (k : Q (.ct, ρ) st) : wp (sCt ρ) Q st := by first | exact k | exact ⟨k⟩
theorem w_ret (k : wp (f ρ) (fun d s => Q (.ret d, ρ) s) st) : wp (sRet f ρ) Q st := by unfold sRet; rw [wp_bind]; (first | exact k | exact ⟨k⟩ | (simp only [wp_pure, wp_some, wp_line, wp_bind]; exact k) | exact False.elim k | exact k.run.elim)
theorem w_expr (k : wp (f ρ) (fun d s => Q (.nx, ρ) s) st) : wp (sExpr f ρ) Q st := by unfold sExpr; rw [wp_bind]; (first | exact k | exact ⟨k⟩ | (simp only [wp_pure, wp_some, wp_line, wp_bind]; exact k) | exact False.elim k | exact k.run.elim)
theorem w_put {i : Nat} {x : Slot} (hi : i < ρ.length) (k : Q (.nx, ρ.set i x) st) : wp (put i x ρ) Q st := by rw [wp_put]; exact ⟨hi, k⟩
theorem w_set {i : Nat} (hi : i < ρ.length) (k : wp (f ρ) (fun d s => Q (.nx, ρ.set i (.val d)) s) st) : wp (sSet i f ρ) Q st := by
  unfold sSet; rw [wp_bind]
  exact wp_mono k fun d s k => w_put hi k
theorem w_own {i : Nat} (hi : i < ρ.length) (k : wp (ga ρ) (fun d s => Q (.nx, ρ.set i (.own d)) s) st) : wp (sOwn i ga ρ) Q st := by
  unfold sOwn; rw [wp_bind]
  exact wp_mono k fun d s k => w_put hi k
theorem w_frz {i : Nat} (k : wp (s1 (frz1 i ρ)) Q st) : wp (sFrz i s1 ρ) Q st := by first | exact k | exact ⟨k⟩
theorem w_if (k : wp (t ρ) (fun b s => IfK (wp (s1 ρ) Q s) (wp (s2 ρ) Q s) b) st) : wp (sIf t s1 s2 ρ) Q st := by
  unfold sIf; rw [wp_bind]
  refine wp_mono k fun b s k => ?_
  cases b with
  | true => (first | exact k.1 rfl | exact ⟨k.1 rfl⟩)
  | false => (first | exact k.2 rfl | exact ⟨k.2 rfl⟩)
theorem w_par {i j : Nat} (hi : i < ρ.length) (hj : j < ρ.length) (k : wp (f ρ) (fun d s => wp (g ρ) (fun e s => Q (.nx, (ρ.set i (.val d)).set j (.val e)) s) s) st) : wp (sPar i j f g ρ) Q st := by
  unfold sPar; rw [wp_bind]
  refine wp_mono k fun d s k => ?_
  rw [wp_bind]
  refine wp_mono k fun e s k => ?_
  rw [wp_bind]
  have : setAll [i, j] [d, e] ρ = some ((ρ.set i (.val d)).set j (.val e)) := by
    unfold setAll; rw [if_pos hi]; unfold setAll; rw [if_pos (by rw [List.length_set]; exact hj)]; rfl
  rw [this]; (first | exact k | exact ⟨k⟩ | (simp only [wp_pure, wp_some, wp_line, wp_bind]; exact k) | exact False.elim k | exact k.run.elim)
theorem w_parO {i j : Nat} (hi : i < ρ.length) (hj : j < ρ.length) (k : wp (f ρ) (fun d s => wp (ga ρ) (fun e s => Q (.nx, (ρ.set i (.val d)).set j (.own e)) s) s) st) : wp (sParO i j f ga ρ) Q st := by
  unfold sParO; rw [wp_bind]
  refine wp_mono k fun d s k => ?_
  rw [wp_bind]
  refine wp_mono k fun e s k => ?_
  rw [wp_bind]
  have : setAll [i] [d] ρ = some (ρ.set i (.val d)) := by unfold setAll; rw [if_pos hi]; rfl
  rw [this, wp_some]
  exact w_put (by rw [List.length_set]; exact hj) k
theorem w_un {pt : Pt} (k : wp (f ρ) (fun d s => ∃ r, pt.set d ρ = some r ∧ Q (.nx, r) s) st) : wp (sUn pt f ρ) Q st := by
  unfold sUn; rw [wp_bind]
  refine wp_mono k fun d s ⟨r, e, k⟩ => ?_
  rw [wp_bind, e]; (first | exact k | exact ⟨k⟩ | (simp only [wp_pure, wp_some, wp_line, wp_bind]; exact k) | exact False.elim k | exact k.run.elim)
theorem w_dput (k : wp (h ρ) (fun v s => wp (f ρ) (fun x s => wp (g ρ) (fun y s => wp (dpM x y v) (fun _ s => Q (.nx, ρ) s) s) s) s) st) : wp (PL.sDPut f g h ρ) Q st := by
  unfold PL.sDPut; rw [wp_bind]
  refine wp_mono k fun v s k => ?_
  rw [wp_bind]
  refine wp_mono k fun x s k => ?_
  rw [wp_bind]
  refine wp_mono k fun y s k => ?_
  rw [wp_bind]; (first | exact k | exact ⟨k⟩ | (simp only [wp_pure, wp_some, wp_line, wp_bind]; exact k) | exact False.elim k | exact k.run.elim)
theorem w_app {i : Nat} {ds : List D} (hi : ρ[i]? = some (.own ds)) (k : wp (f ρ) (fun d s => ds.length + 1 ≤ sizeLine ∧ Q (.nx, ρ.set i (.own (ds ++ [d]))) s) st) : wp (sApp i f ρ) Q st := by
  unfold sApp; rw [hi]
  show wp ((f ρ).bind _) Q st
  rw [wp_bind]
  refine wp_mono k fun d s ⟨hl, k⟩ => ?_
  rw [wp_bind, wp_line]
  exact ⟨hl, w_put (List.getElem?_eq_some_iff.mp hi).1 k⟩
theorem w_ext {i : Nat} {ds : List D} (hi : ρ[i]? = some (.own ds)) (k : wp (f ρ) (fun d s => ∃ es, d = .lst es ∧ ds.length + es.length ≤ sizeLine ∧ Q (.nx, ρ.set i (.own (ds ++ es))) s) st) : wp (sExt i f ρ) Q st := by
  unfold sExt; rw [hi]
  show wp ((f ρ).bind _) Q st
  rw [wp_bind]
  refine wp_mono k fun d s ⟨es, e, hl, k⟩ => ?_
  subst e
  show wp ((line (ds.length + es.length)).bind fun _ => put i (.own (ds ++ es)) ρ) Q s
  rw [wp_bind, wp_line]
  exact ⟨hl, w_put (List.getElem?_eq_some_iff.mp hi).1 k⟩
/-! ### expressions -/
theorem w_var {i : Nat} {d : D} (hi : ρ[i]? = some (.val d)) (k : R d st) : wp (eVar i ρ) R st := by unfold eVar; rw [hi]; (first | exact k | exact ⟨k⟩ | (simp only [wp_pure, wp_some, wp_line, wp_bind]; exact k) | exact False.elim k | exact k.run.elim)
theorem w_look {i : Nat} {ds : List D} (hi : ρ[i]? = some (.own ds)) (k : R (.lst ds) st) : wp (eLook i ρ) R st := by unfold eLook; rw [hi]; (first | exact k | exact ⟨k⟩ | (simp only [wp_pure, wp_some, wp_line, wp_bind]; exact k) | exact False.elim k | exact k.run.elim)
theorem w_lookV {i : Nat} {d : D} (hi : ρ[i]? = some (.val d)) (k : R d st) : wp (eLook i ρ) R st := by unfold eLook; rw [hi]; (first | exact k | exact ⟨k⟩ | (simp only [wp_pure, wp_some, wp_line, wp_bind]; exact k) | exact False.elim k | exact k.run.elim)
theorem w_c {d : D} (k : R d st) : wp (eC d ρ) R st := by first | exact k | exact ⟨k⟩
theorem w_e1 {p : D → M D} (k : wp (f ρ) (fun x s => wp (p x) R s) st) : wp (e1 p f ρ) R st := by unfold e1; rw [wp_bind]; (first | exact k | exact ⟨k⟩ | (simp only [wp_pure, wp_some, wp_line, wp_bind]; exact k) | exact False.elim k | exact k.run.elim)
theorem w_e2 {p : D → D → M D} (k : wp (f ρ) (fun x s => wp (g ρ) (fun y s => wp (p x y) R s) s) st) : wp (e2 p f g ρ) R st := by
  unfold e2; rw [wp_bind]
  refine wp_mono k fun x s k => ?_
  rw [wp_bind]; (first | exact k | exact ⟨k⟩ | (simp only [wp_pure, wp_some, wp_line, wp_bind]; exact k) | exact False.elim k | exact k.run.elim)
theorem w_aN (k : A [] st) : wp (aNil ρ) A st := by first | exact k | exact ⟨k⟩
theorem w_aC (k : wp (f ρ) (fun x s => wp (ga ρ) (fun xs s => A (x :: xs) s) s) st) : wp (aCons f ga ρ) A st := by
  unfold aCons; rw [wp_bind]
  refine wp_mono k fun x s k => ?_
  rw [wp_bind]; (first | exact k | exact ⟨k⟩ | (simp only [wp_pure, wp_some, wp_line, wp_bind]; exact k) | exact False.elim k | exact k.run.elim)
theorem w_tup (k : wp (ga ρ) (fun xs s => xs.length ≤ sizeLine ∧ R (.tup xs) s) st) : wp (eTup ga ρ) R st := by
  unfold eTup; rw [wp_bind]
  refine wp_mono k fun x s k => ?_
  rw [wp_bind, wp_line]; (first | exact k | exact ⟨k⟩ | (simp only [wp_pure, wp_some, wp_line, wp_bind]; exact k) | exact False.elim k | exact k.run.elim)
theorem w_lst (k : wp (ga ρ) (fun xs s => xs.length ≤ sizeLine ∧ R (.lst xs) s) st) : wp (eLst ga ρ) R st := by
  unfold eLst; rw [wp_bind]
  refine wp_mono k fun x s k => ?_
  rw [wp_bind, wp_line]; (first | exact k | exact ⟨k⟩ | (simp only [wp_pure, wp_some, wp_line, wp_bind]; exact k) | exact False.elim k | exact k.run.elim)
theorem w_fLst (k : wp (ga ρ) (fun xs s => xs.length ≤ sizeLine ∧ A xs s) st) : wp (fLst ga ρ) A st := by
  unfold fLst; rw [wp_bind]
  refine wp_mono k fun x s k => ?_
  rw [wp_bind, wp_line]; (first | exact k | exact ⟨k⟩ | (simp only [wp_pure, wp_some, wp_line, wp_bind]; exact k) | exact False.elim k | exact k.run.elim)
theorem w_eL (k : wp (ga ρ) (fun xs s => R (.lst xs) s) st) : wp (eL ga ρ) R st := by unfold eL; rw [wp_bind]; (first | exact k | exact ⟨k⟩ | (simp only [wp_pure, wp_some, wp_line, wp_bind]; exact k) | exact False.elim k | exact k.run.elim)
theorem w_call {n : Nat} {sem : List D → M D} (k : wp (ga ρ) (fun ds s => ds.length = n ∧ wp (sem ds) R s) st) : wp (eCall n sem ga ρ) R st := by
  unfold eCall; rw [wp_bind]
  refine wp_mono k fun ds s ⟨hl, k⟩ => ?_
  exact wp_call hl k
theorem w_tBl (k : wp (f ρ) (BlK T) st) : wp (tBl f ρ) T st := by
  unfold tBl; rw [wp_bind]
  refine wp_mono k fun d s k => ?_
  cases d <;> (first | exact k | exact ⟨k⟩ | (simp only [wp_pure, wp_some, wp_line, wp_bind]; exact k) | exact False.elim k | exact k.run.elim)
theorem w_tNt (k : wp (t ρ) (fun b s => T (!b) s) st) : wp (tNt t ρ) T st := by unfold tNt; rw [wp_bind]; (first | exact k | exact ⟨k⟩ | (simp only [wp_pure, wp_some, wp_line, wp_bind]; exact k) | exact False.elim k | exact k.run.elim)
theorem w_tAn (k : wp (t ρ) (fun b s => IfK (wp (u ρ) T s) (T false s) b) st) : wp (tAn t u ρ) T st := by
  unfold tAn; rw [wp_bind]
  refine wp_mono k fun b s k => ?_
  cases b with
  | true => (first | exact k.1 rfl | exact ⟨k.1 rfl⟩)
  | false => (first | exact k.2 rfl | exact ⟨k.2 rfl⟩)
theorem w_tOr (k : wp (t ρ) (fun b s => IfK (T true s) (wp (u ρ) T s) b) st) : wp (tOor t u ρ) T st := by
  unfold tOor; rw [wp_bind]
  refine wp_mono k fun b s k => ?_
  cases b with
  | true => (first | exact k.1 rfl | exact ⟨k.1 rfl⟩)
  | false => (first | exact k.2 rfl | exact ⟨k.2 rfl⟩)
theorem w_vAnd (k : wp (f ρ) (BlK fun b s => IfK (wp (g ρ) R s) (R (.bl false) s) b) st) : wp (vAnd f g ρ) R st := by
  unfold vAnd; rw [wp_bind]
  refine wp_mono k fun d s k => ?_
  cases d with
  | bl b => cases b with
    | true => (first | exact k.1 rfl | exact ⟨k.1 rfl⟩)
    | false => (first | exact k.2 rfl | exact ⟨k.2 rfl⟩)
  | _ => (first | exact k | exact ⟨k⟩ | (simp only [wp_pure, wp_some, wp_line, wp_bind]; exact k) | exact False.elim k | exact k.run.elim)
theorem w_vOr (k : wp (f ρ) (BlK fun b s => IfK (R (.bl true) s) (wp (g ρ) R s) b) st) : wp (vOr f g ρ) R st := by
  unfold vOr; rw [wp_bind]
  refine wp_mono k fun d s k => ?_
  cases d with
  | bl b => cases b with
    | true => (first | exact k.1 rfl | exact ⟨k.1 rfl⟩)
    | false => (first | exact k.2 rfl | exact ⟨k.2 rfl⟩)
  | _ => (first | exact k | exact ⟨k⟩ | (simp only [wp_pure, wp_some, wp_line, wp_bind]; exact k) | exact False.elim k | exact k.run.elim)
theorem w_vNot (k : wp (f ρ) (BlK fun b s => R (.bl (!b)) s) st) : wp (vNot f ρ) R st := by
  unfold vNot; rw [wp_bind]
  refine wp_mono k fun d s k => ?_
  cases d <;> (first | exact k | exact ⟨k⟩ | (simp only [wp_pure, wp_some, wp_line, wp_bind]; exact k) | exact False.elim k | exact k.run.elim)
theorem w_eIf (k : wp (t ρ) (fun b s => IfK (wp (f ρ) R s) (wp (g ρ) R s) b) st) : wp (eIf t f g ρ) R st := by
  unfold eIf; rw [wp_bind]
  refine wp_mono k fun b s k => ?_
  cases b with
  | true => (first | exact k.1 rfl | exact ⟨k.1 rfl⟩)
  | false => (first | exact k.2 rfl | exact ⟨k.2 rfl⟩)
theorem w_eCh {p q : D → D → M D} (k : wp (f ρ) (fun x s => wp (g ρ) (fun y s => wp (p x y) (BlK fun b s => IfK (wp (h ρ) (fun z s => wp (q y z) R s) s) (R (.bl false) s) b) s) s) st) : wp (eCh p q f g h ρ) R st := by
  unfold eCh; rw [wp_bind]
  refine wp_mono k fun x s k => ?_
  rw [wp_bind]
  refine wp_mono k fun y s k => ?_
  rw [wp_bind]
  refine wp_mono k fun d s k => ?_
  cases d with
  | bl b => cases b with
    | true =>
      show wp ((h ρ).bind fun u => q y u) R s
      rw [wp_bind]; (first | exact k.1 rfl | exact ⟨k.1 rfl⟩)
    | false => (first | exact k.2 rfl | exact ⟨k.2 rfl⟩)
  | _ => (first | exact k | exact ⟨k⟩ | (simp only [wp_pure, wp_some, wp_line, wp_bind]; exact k) | exact False.elim k | exact k.run.elim)
theorem w_neg (k : wp (f ρ) (IntK fun i s => R (.int (-i)) s) st) : wp (eNeg f ρ) R st := by
  unfold eNeg; rw [wp_bind]
  refine wp_mono k fun d s k => ?_
  cases d <;> (first | exact k | exact ⟨k⟩ | (simp only [wp_pure, wp_some, wp_line, wp_bind]; exact k) | exact False.elim k | exact k.run.elim)
variable {lo hi : En → M (Option Int)} {O : Option Int → Sto → Prop}
theorem w_oNo (k : O none st) : wp (oNo ρ) O st := by first | exact k | exact ⟨k⟩
theorem w_oSo (k : wp (f ρ) (IntK fun i s => O (some i) s) st) : wp (oSo f ρ) O st := by
  unfold oSo; rw [wp_bind]
  refine wp_mono k fun d s k => ?_
  cases d <;> (first | exact k | exact ⟨k⟩ | (simp only [wp_pure, wp_some, wp_line, wp_bind]; exact k) | exact False.elim k | exact k.run.elim)
theorem w_sl (k : wp (f ρ) (fun x s => wp (lo ρ) (fun l s => wp (hi ρ) (fun h s => wp (slM x l h) R s) s) s) st) : wp (eSl f lo hi ρ) R st := by
  unfold eSl; rw [wp_bind]
  refine wp_mono k fun x s k => ?_
  rw [wp_bind]
  refine wp_mono k fun x s k => ?_
  rw [wp_bind]; (first | exact k | exact ⟨k⟩ | (simp only [wp_pure, wp_some, wp_line, wp_bind]; exact k) | exact False.elim k | exact k.run.elim)
theorem w_m1 {q : Str → D → M D} (k : wp (f ρ) (StrK fun a s => wp (g ρ) (fun y s => wp (q a y) R s) s) st) : wp (eM1 q f g ρ) R st := by
  unfold eM1; rw [wp_bind]
  refine wp_mono k fun d s k => ?_
  cases d with
  | str a =>
    show wp ((g ρ).bind fun y => q a y) R s
    rw [wp_bind]; (first | exact k | exact ⟨k⟩ | (simp only [wp_pure, wp_some, wp_line, wp_bind]; exact k) | exact False.elim k | exact k.run.elim)
  | _ => (first | exact k | exact ⟨k⟩ | (simp only [wp_pure, wp_some, wp_line, wp_bind]; exact k) | exact False.elim k | exact k.run.elim)
/-! ### operators on known data -/
theorem w_addI {i j : Int} (k : R (.int (i + j)) st) : wp (addM (.int i) (.int j)) R st := by first | exact k | exact ⟨k⟩
theorem w_addS {i j : Str} (hl : i.length + j.length ≤ sizeLine) (k : R (.str (i ++ j)) st) : wp (addM (.str i) (.str j)) R st := by
  show wp ((line _).bind _) R st
  rw [wp_bind, wp_line]; exact ⟨hl, by first | exact k | exact ⟨k⟩⟩
theorem w_addT {i j : List D} (hl : i.length + j.length ≤ sizeLine) (k : R (.tup (i ++ j)) st) : wp (addM (.tup i) (.tup j)) R st := by
  show wp ((line _).bind _) R st
  rw [wp_bind, wp_line]; exact ⟨hl, by first | exact k | exact ⟨k⟩⟩
theorem w_addL {i j : List D} (hl : i.length + j.length ≤ sizeLine) (k : R (.lst (i ++ j)) st) : wp (addM (.lst i) (.lst j)) R st := by
  show wp ((line _).bind _) R st
  rw [wp_bind, wp_line]; exact ⟨hl, by first | exact k | exact ⟨k⟩⟩
theorem w_int2 {C : Int → Int → Bool} {p : Int → Int → Int} {i j : Int} (hc : C i j = true) (k : R (.int (p i j)) st) : wp (int2 C p (.int i) (.int j)) R st := by
  show wp (guardM _ _) R st
  rw [wp_guard]; exact ⟨hc, by first | exact k | exact ⟨k⟩⟩
theorem w_ltI {i j : Int} (k : R (.bl (decide (i < j))) st) : wp (ltM (.int i) (.int j)) R st := by first | exact k | exact ⟨k⟩
theorem w_leI {i j : Int} (k : R (.bl (decide (i ≤ j))) st) : wp (leM (.int i) (.int j)) R st := by first | exact k | exact ⟨k⟩
theorem w_gtI {i j : Int} (k : R (.bl (decide (j < i))) st) : wp (gtM (.int i) (.int j)) R st := by first | exact k | exact ⟨k⟩
theorem w_geI {i j : Int} (k : R (.bl (decide (j ≤ i))) st) : wp (geM (.int i) (.int j)) R st := by first | exact k | exact ⟨k⟩
theorem w_eq {x y : D} (hx : x.shp = true) (hy : y.shp = true) (k : R (.bl (x.eqv y)) st) : wp (eqM x y) R st := by
  show wp (guardM _ _) R st
  rw [wp_guard]; exact ⟨by rw [hx, hy]; rfl, by first | exact k | exact ⟨k⟩⟩
theorem w_ne {x y : D} (hx : x.shp = true) (hy : y.shp = true) (k : R (.bl (!x.eqv y)) st) : wp (neM x y) R st := by
  show wp (guardM _ _) R st
  rw [wp_guard]; exact ⟨by rw [hx, hy]; rfl, by first | exact k | exact ⟨k⟩⟩
theorem w_lenL {xs : List D} (k : R (.int xs.length) st) : wp (lenM (.lst xs)) R st := by first | exact k | exact ⟨k⟩
theorem w_lenT {xs : List D} (k : R (.int xs.length) st) : wp (lenM (.tup xs)) R st := by first | exact k | exact ⟨k⟩
theorem w_lenS {x : Str} (hl : x.length ≤ sizeLine) (k : R (.int x.length) st) : wp (lenM (.str x)) R st := by
  show wp ((line _).bind _) R st
  rw [wp_bind, wp_line]; exact ⟨hl, by first | exact k | exact ⟨k⟩⟩
theorem w_ixL {xs : List D} {i : Int} {d : D} (e : atI xs i = some d) (k : R d st) : wp (ixM (.lst xs) (.int i)) R st := by
  show wp (opt _) R st
  rw [e]; (first | exact k | exact ⟨k⟩ | (simp only [wp_pure, wp_some, wp_line, wp_bind]; exact k) | exact False.elim k | exact k.run.elim)
theorem w_ixT {xs : List D} {i : Int} {d : D} (e : atI xs i = some d) (k : R d st) : wp (ixM (.tup xs) (.int i)) R st := by
  show wp (opt _) R st
  rw [e]; (first | exact k | exact ⟨k⟩ | (simp only [wp_pure, wp_some, wp_line, wp_bind]; exact k) | exact False.elim k | exact k.run.elim)
theorem w_ixS {x : Str} {i : Int} {c : Nat} (hl : x.length ≤ sizeLine) (e : atI x.cps.toList i = some c) (k : R (.str ⟨#[c]⟩) st) : wp (ixM (.str x) (.int i)) R st := by
  show wp ((line _).bind _) R st
  rw [wp_bind, wp_line]
  refine ⟨hl, ?_⟩
  rw [wp_bind, e]; (first | exact k | exact ⟨k⟩ | (simp only [wp_pure, wp_some, wp_line, wp_bind]; exact k) | exact False.elim k | exact k.run.elim)
theorem w_intI {i : Int} (k : R (.int i) st) : wp (intM (.int i)) R st := by first | exact k | exact ⟨k⟩
theorem w_slL {xs : List D} {l u : Option Int} (k : R (.lst (cutD xs l u)) st) : wp (slM (.lst xs) l u) R st := by first | exact k | exact ⟨k⟩
theorem w_slF {xs : List D} {l u : Option Int} (k : R (.lst (cutD xs l u)) st) : wp (slM (.frz xs) l u) R st := by first | exact k | exact ⟨k⟩
theorem w_slT {xs : List D} {l u : Option Int} (k : R (.tup (cutD xs l u)) st) : wp (slM (.tup xs) l u) R st := by first | exact k | exact ⟨k⟩
theorem w_slS {x : Str} {l u : Option Int} (hl : x.length ≤ sizeLine) (k : R (.str (cutS x l u)) st) : wp (slM (.str x) l u) R st := by
  show wp ((line _).bind _) R st
  rw [wp_bind, wp_line]; exact ⟨hl, by first | exact k | exact ⟨k⟩⟩
theorem w_tupL {xs : List D} (k : R (.tup xs) st) : wp (tupM (.lst xs)) R st := by first | exact k | exact ⟨k⟩
theorem w_tupT {xs : List D} (k : R (.tup xs) st) : wp (tupM (.tup xs)) R st := by first | exact k | exact ⟨k⟩
theorem w_range {n : Int} {A : List D → Sto → Prop} (h1 : -(2 ^ 62) ≤ n) (h2 : n < 2 ^ 62) (h3 : n.toNat ≤ sizeLine) (k : A ((List.range n.toNat).map fun (i : Nat) => D.int i) st) : wp (rangeL 0 n) A st := by
  rw [wp_is]
  unfold rangeL
  rw [Int.sub_zero, if_pos ⟨by decide, by decide, h1, h2, h3⟩]
  have e : ((List.range n.toNat).map fun (i : Nat) => D.int (0 + (i : Int))) = (List.range n.toNat).map fun (i : Nat) => D.int i := List.map_congr_left fun i _ => by rw [Int.zero_add]
  rw [e]; (first | exact k | exact ⟨k⟩ | (simp only [wp_pure, wp_some, wp_line, wp_bind]; exact k) | exact False.elim k | exact k.run.elim)
theorem w_iR1 {A : List D → Sto → Prop} (k : wp (ga ρ) (fun ds s => ∃ n, ds = [.int n] ∧ wp (rangeL 0 n) A s) st) : wp (iRange1 ga ρ) A st := by
  unfold iRange1; rw [wp_bind]
  refine wp_mono k fun ds s ⟨n, e, k⟩ => ?_
  subst e; (first | exact k | exact ⟨k⟩ | (simp only [wp_pure, wp_some, wp_line, wp_bind]; exact k) | exact False.elim k | exact k.run.elim)
theorem w_iSeq {A : List D → Sto → Prop} (k : wp (f ρ) (fun d s => ∃ ds, itD d = some ds ∧ A ds s) st) : wp (iSeq f ρ) A st := by
  unfold iSeq; rw [wp_bind]
  refine wp_mono k fun d s ⟨ds, e, k⟩ => ?_
  rw [e]; (first | exact k | exact ⟨k⟩ | (simp only [wp_pure, wp_some, wp_line, wp_bind]; exact k) | exact False.elim k | exact k.run.elim)
theorem w_for {it : En → M (List D)} {p : Pt} (k : wp (it ρ) (fun ds s => wp (forL (fun d ρ => (opt (p.set d ρ)).bind s1) ds ρ) Q s) st) : wp (sFor it p s1 ρ) Q st := by unfold sFor; rw [wp_bind]; (first | exact k | exact ⟨k⟩ | (simp only [wp_pure, wp_some, wp_line, wp_bind]; exact k) | exact False.elim k | exact k.run.elim)
theorem w_lc {it : En → M (List D)} {p : Pt} {vs : List Nat} (k : wp (it ρ) (fun ds s => wp (lcL p.set t f (wipeE ρ vs) ds) A s) st) : wp (eLc it p vs t f ρ) A st := by
  unfold eLc; rw [wp_bind]
  refine wp_mono k fun ds s k => ?_
  rw [wp_noX]; (first | exact k | exact ⟨k⟩ | (simp only [wp_pure, wp_some, wp_line, wp_bind]; exact k) | exact False.elim k | exact k.run.elim)
theorem w_true (k : T true st) : wp (tTrue ρ) T st := by first | exact k | exact ⟨k⟩
theorem w_in {x y : D} {ds : List D} (hy : seqD y = some ds) (hx : x.shp = true) (hys : y.shp = true) (k : R (.bl (ds.any fun z => z.eqv x)) st) : wp (inM x y) R st := by
  cases y with
  | tup es => cases hy; show wp (guardM _ _) R st; rw [wp_guard]; exact ⟨by rw [hx, hys]; rfl, by first | exact k | exact ⟨k⟩⟩
  | lst es => cases hy; show wp (guardM _ _) R st; rw [wp_guard]; exact ⟨by rw [hx, hys]; rfl, by first | exact k | exact ⟨k⟩⟩
  | frz es => cases hy; show wp (guardM _ _) R st; rw [wp_guard]; exact ⟨by rw [hx, hys]; rfl, by first | exact k | exact ⟨k⟩⟩
  | _ => cases hy
theorem w_notIn {x y : D} {ds : List D} (hy : seqD y = some ds) (hx : x.shp = true) (hys : y.shp = true) (k : R (.bl (!ds.any fun z => z.eqv x)) st) : wp (notInM x y) R st := by
  cases y with
  | tup es => cases hy; show wp (guardM _ _) R st; rw [wp_guard]; exact ⟨by rw [hx, hys]; rfl, by first | exact k | exact ⟨k⟩⟩
  | lst es => cases hy; show wp (guardM _ _) R st; rw [wp_guard]; exact ⟨by rw [hx, hys]; rfl, by first | exact k | exact ⟨k⟩⟩
  | frz es => cases hy; show wp (guardM _ _) R st; rw [wp_guard]; exact ⟨by rw [hx, hys]; rfl, by first | exact k | exact ⟨k⟩⟩
  | _ => cases hy
end
end PL

set_option linter.all false
set_option maxRecDepth 100000
set_option maxHeartbeats 4000000
/-! PW3: data that may be compared; equality; places. -/
namespace PL
open PySem PySem.Spec L2
structure Shp (k : Nat) (d : D) : Prop where
  can : d.py.canLay0 = true
  dep : d.py.depth ≤ k
theorem Shp.shp {k : Nat} {d : D} (h : Shp k d) (hk : k ≤ 64 := by decide) : d.shp = true := by
  unfold D.shp SeqAt.shaped
  rw [h.can, Bool.true_and]
  exact decide_eq_true (Nat.le_trans h.dep hk)
theorem Shp.mono {j k : Nat} {d : D} (h : Shp j d) (hk : j ≤ k := by decide) : Shp k d := ⟨h.can, Nat.le_trans h.dep hk⟩
theorem shp_int {i : Int} : Shp 0 (.int i) := ⟨by simp [D.py, PyData.canLay0], by simp [D.py, PyData.depth]⟩
theorem shp_bl {i : Bool} : Shp 0 (.bl i) := ⟨by simp [D.py, PyData.canLay0], by simp [D.py, PyData.depth]⟩
theorem shp_non : Shp 0 .non := ⟨by simp [D.py, PyData.canLay0], by simp [D.py, PyData.depth]⟩
theorem shp_str {x : Str} (h : PyData.strOk x = true) : Shp 0 (.str x) := ⟨by simp [D.py, PyData.canLay0, h], by simp [D.py, PyData.depth]⟩
theorem shpL_all {k : Nat} : ∀ {ds : List D}, (∀ d ∈ ds, Shp k d) → PyData.canLayAll0 (pyL ds) = true ∧ PyData.depthAll (pyL ds) ≤ k
  | [], _ => ⟨by simp [pyL, PyData.canLayAll0], by simp [pyL, PyData.depthAll]⟩
  | d :: ds, h => by
    obtain ⟨h1, h2⟩ := shpL_all (ds := ds) fun e he => h e (List.mem_cons_of_mem _ he)
    have h3 := h d List.mem_cons_self
    exact ⟨by simp [pyL, PyData.canLayAll0, h1, h3.can], by simp only [pyL, PyData.depthAll]; exact Nat.max_le.mpr ⟨h3.dep, h2⟩⟩
theorem shp_tup {k : Nat} {ds : List D} (h : ∀ d ∈ ds, Shp k d) : Shp (k + 1) (.tup ds) := by
  obtain ⟨h1, h2⟩ := shpL_all h
  exact ⟨by simp [D.py, PyData.canLay0, h1], by simp only [D.py, PyData.depth]; omega⟩
theorem shp_lst {k : Nat} {ds : List D} (h : ∀ d ∈ ds, Shp k d) : Shp (k + 1) (.lst ds) := by
  obtain ⟨h1, h2⟩ := shpL_all h
  exact ⟨by simp [D.py, PyData.canLay0, h1], by simp only [D.py, PyData.depth]; omega⟩
theorem shp_lst0 : Shp 0 (.lst []) → True := fun _ => trivial
/-! ### equality -/
theorem eqv_ii {i j : Int} : (D.int i).eqv (.int j) = (i == j) := by simp [D.eqv, D.py, PyData.eqv]
theorem eqv_ss {i j : Str} : (D.str i).eqv (.str j) = (i == j) := by simp [D.eqv, D.py, PyData.eqv]
def eqvL : List D → List D → Bool
  | [], [] => true
  | x :: xs, y :: ys => x.eqv y && eqvL xs ys
  | _, _ => false
theorem eqvL_py : ∀ xs ys : List D, PyData.eqvAll (pyL xs) (pyL ys) = eqvL xs ys
  | [], [] => by simp [pyL, PyData.eqvAll, eqvL]
  | [], _ :: _ => by simp [pyL, PyData.eqvAll, eqvL]
  | _ :: _, [] => by simp [pyL, PyData.eqvAll, eqvL]
  | x :: xs, y :: ys => by
    simp only [pyL, PyData.eqvAll, eqvL, eqvL_py xs ys]
    rfl
theorem eqv_tt {i j : List D} : (D.tup i).eqv (.tup j) = eqvL i j := by simp [D.eqv, D.py, PyData.eqv, eqvL_py]
theorem eqv_ll {i j : List D} : (D.lst i).eqv (.lst j) = eqvL i j := by simp [D.eqv, D.py, PyData.eqv, eqvL_py]
theorem eqvL_nil (xs : List D) : eqvL xs [] = xs.isEmpty := by cases xs <;> rfl
theorem eqv_si {i : Str} {j : Int} : (D.str i).eqv (.int j) = false := by simp [D.eqv, D.py, PyData.eqv]
/-! ### places -/
theorem atI_map {α β : Type} (f : α → β) (xs : List α) (i : Int) : atI (xs.map f) i = (atI xs i).map f := by
  unfold L2.atI
  rw [List.length_map]
  cases ixN xs.length i with
  | none => rfl
  | some j => simp
theorem atI_lt {α : Type} {xs : List α} {i : Int} (h0 : 0 ≤ i) (h1 : i < xs.length) : ∃ x, atI xs i = some x ∧ x ∈ xs := by
  obtain ⟨j, rfl⟩ := Int.eq_ofNat_of_zero_le h0
  have hj : j < xs.length := by omega
  exact ⟨xs[j], atI_nat (List.getElem?_eq_getElem hj), List.getElem_mem hj⟩
end PL

set_option linter.all false
set_option maxRecDepth 100000
set_option maxHeartbeats 4000000
/-! PW4: comprehensions and walks with one name. -/
namespace PL
open PySem PySem.Spec L2
section
variable {i : Nat} {tt : En → M Bool} {te : En → M D} {ρ : En} {R : List D → Sto → Prop}
theorem set_nm {d : D} (hi : i < ρ.length) : (Pt.nm i).set d ρ = some (ρ.set i (.val d)) := by
  cases d <;> exact if_pos hi
/-- each item gives one item; F: what is kept of the store -/
theorem lc_each (hi : i < ρ.length) (P : D → Prop) (F : Sto → Prop) : ∀ (ds : List D) (st : Sto) {R : List D → Sto → Prop}, (∀ d ∈ ds, ∀ s, F s → wp (te (ρ.set i (.val d))) (fun y s' => P y ∧ F s') s) → F st →
    (∀ out s', out.length = ds.length → (∀ y ∈ out, P y) → F s' → R out s') → wp (lcL (Pt.nm i).set tTrue te ρ ds) R st
  | [], st, R, _, hF, k => by unfold lcL; rw [wp_pure]; exact k [] st rfl (fun _ h => absurd h List.not_mem_nil) hF
  | d :: ds, st, R, hs, hF, k => by
    unfold lcL
    rw [set_nm hi]
    show wp ((te (ρ.set i (.val d))).bind fun y => (lcL (Pt.nm i).set tTrue te ρ ds).bind fun ys => M.pure (y :: ys)) R st
    rw [wp_bind]
    refine wp_mono (hs d List.mem_cons_self st hF) fun y s1 ⟨hy, hF1⟩ => ?_
    rw [wp_bind]
    refine lc_each hi P F ds s1 (R := fun ys s => wp (M.pure (y :: ys)) R s) (fun e he => hs e (List.mem_cons_of_mem _ he)) hF1 fun out s' hl hP hF' => ?_
    rw [wp_pure]
    exact k (y :: out) s' (by rw [List.length_cons, List.length_cons, hl]) (fun z hz => by
      rcases List.mem_cons.mp hz with e | e
      · rw [e]; exact hy
      · exact hP z e) hF'
/-- each item gives what g says, nothing else happens -/
theorem lc_map (hi : i < ρ.length) (g : D → D) : ∀ (ds : List D) (st : Sto) {R : List D → Sto → Prop}, (∀ d ∈ ds, ∀ (Q : D → Sto → Prop), Q (g d) st → wp (te (ρ.set i (.val d))) Q st) → R (ds.map g) st → wp (lcL (Pt.nm i).set tTrue te ρ ds) R st
  | [], st, R, _, k => by unfold lcL; rw [wp_pure]; exact k
  | d :: ds, st, R, hs, k => by
    unfold lcL
    rw [set_nm hi]
    show wp ((te (ρ.set i (.val d))).bind fun y => (lcL (Pt.nm i).set tTrue te ρ ds).bind fun ys => M.pure (y :: ys)) R st
    rw [wp_bind]
    refine hs d List.mem_cons_self _ ?_
    rw [wp_bind]
    exact lc_map hi g ds st (R := fun ys s => wp (M.pure (g d :: ys)) R s) (fun e he => hs e (List.mem_cons_of_mem _ he)) (by rw [wp_pure]; exact k)
/-- those items at which p holds -/
theorem lc_filter (hi : i < ρ.length) (p : D → Bool) : ∀ (ds : List D) (st : Sto) {R : List D → Sto → Prop}, (∀ d ∈ ds, ∀ (T : Bool → Sto → Prop), T (p d) st → wp (tt (ρ.set i (.val d))) T st) → R (ds.filter p) st → wp (lcL (Pt.nm i).set tt (eVar i) ρ ds) R st
  | [], st, R, _, k => by unfold lcL; rw [wp_pure]; exact k
  | d :: ds, st, R, hs, k => by
    unfold lcL
    rw [set_nm hi]
    show wp ((tt (ρ.set i (.val d))).bind fun b => if b = true then (eVar i (ρ.set i (.val d))).bind fun y => (lcL (Pt.nm i).set tt (eVar i) ρ ds).bind fun ys => M.pure (y :: ys) else lcL (Pt.nm i).set tt (eVar i) ρ ds) R st
    rw [wp_bind]
    refine hs d List.mem_cons_self _ ?_
    by_cases h : p d = true
    · rw [if_pos h, wp_bind]
      refine w_var (List.getElem?_set_self hi) ?_
      rw [wp_bind]
      exact lc_filter hi p ds st (R := fun ys s => wp (M.pure (d :: ys)) R s) (fun e he => hs e (List.mem_cons_of_mem _ he)) (by rw [List.filter_cons_of_pos h] at k; rw [wp_pure]; exact k)
    · rw [if_neg h]
      exact lc_filter hi p ds st (fun e he => hs e (List.mem_cons_of_mem _ he)) (by rw [List.filter_cons_of_neg h] at k; exact k)
/-- a walk with one name: I by the number of items that are done -/
theorem for_each {bd : En → M (Fl × En)} {Q : Fl × En → Sto → Prop} {p : Pt} (I : Nat → En → Sto → Prop) : ∀ (ds : List D) (j : Nat) (ρ : En) (st : Sto), (∀ m d ρ s, ds[m]? = some d → I (j + m) ρ s → ∃ ρ', p.set d ρ = some ρ' ∧ wp (bd ρ') (fun r s' => r.1 = .nx ∧ I (j + m + 1) r.2 s') s) → I j ρ st →
    (∀ ρ s, I (j + ds.length) ρ s → Q (.nx, ρ) s) → wp (forL (fun d ρ => (opt (p.set d ρ)).bind bd) ds ρ) Q st
  | [], j, ρ, st, _, hI, k => by unfold forL; rw [wp_pure]; exact k ρ st hI
  | d :: ds, j, ρ, st, hs, hI, k => by
    unfold forL
    obtain ⟨ρ', e, h⟩ := hs 0 d ρ st rfl hI
    rw [e]
    show wp ((bd ρ').bind _) Q st
    rw [wp_bind]
    refine wp_mono h fun r s1 ⟨e1, h1⟩ => ?_
    obtain ⟨fl, ρ1⟩ := r
    cases e1
    exact for_each I ds (j + 1) ρ1 s1 (fun m d ρ s hm hi => by
      have := hs (m + 1) d ρ s (by simpa using hm) (by rw [show j + (m + 1) = j + 1 + m by omega]; exact hi)
      rw [show j + (m + 1) + 1 = j + 1 + m + 1 by omega] at this
      exact this) h1 fun ρ s h => k ρ s (by rw [List.length_cons, show j + (ds.length + 1) = j + 1 + ds.length by omega]; exact h)
end
end PL

set_option linter.all false
set_option maxRecDepth 100000
/-! PW5: isinstance, is None, by kinds. -/
namespace PL
open PySem PySem.Spec L2
theorem k_ifnF {P1 P2 : Prop} (k : P1) : IfK P1 P2 (!false) := ⟨fun _ => k, fun e => (nomatch e)⟩
theorem k_ifnT {P1 P2 : Prop} (k : P2) : IfK P1 P2 (!true) := ⟨fun e => (nomatch e), fun _ => k⟩
theorem small0 {n : Nat} (h : n ≤ 1000000) : n ≤ sizeLine := Nat.le_trans h (by decide)
theorem w_rangeN {n : Nat} {A : List D → Sto → Prop} {st : Sto} (h : n ≤ 1000000) (k : A ((List.range n).map fun (i : Nat) => D.int i) st) : wp (rangeL 0 (n : Int)) A st := by
  have h1 : (n : Int).toNat = n := Int.toNat_natCast n
  have h0 : (0 : Int) ≤ n := Int.natCast_nonneg n
  have h2 : (n : Int) ≤ 1000000 := by omega
  generalize (n : Int) = z at h1 h0 h2 ⊢
  refine w_range ?_ ?_ ?_ ?_
  · omega
  · omega
  · rw [h1]; exact small0 h
  · rw [h1]; exact k
theorem w_isi {R : D → Sto → Prop} {st : Sto} {T : String} {d : D} {t : String} {b : Bool} (h : tyN d = some t) (hb : kitB t T = some b) (k : R (.bl b) st) : wp (isiM T d) R st := by
  unfold isiM; rw [h]
  show wp (match kitB t T with | some b => PL.bl b | none => M.bad) R st
  rw [hb]; exact ⟨k⟩
theorem i_tuple_NoneType {R : D → Sto → Prop} {st : Sto} (k : R (.bl false) st) : wp (isiM "tuple" .non) R st := w_isi (t := "NoneType") (b := false) rfl (by decide +kernel) k
theorem i_tuple_bool {x : Bool} {R : D → Sto → Prop} {st : Sto} (k : R (.bl false) st) : wp (isiM "tuple" (.bl x)) R st := w_isi (t := "bool") (b := false) rfl (by decide +kernel) k
theorem i_tuple_int {x : Int} {R : D → Sto → Prop} {st : Sto} (k : R (.bl false) st) : wp (isiM "tuple" (.int x)) R st := w_isi (t := "int") (b := false) rfl (by decide +kernel) k
theorem i_tuple_str {x : Str} {R : D → Sto → Prop} {st : Sto} (k : R (.bl false) st) : wp (isiM "tuple" (.str x)) R st := w_isi (t := "str") (b := false) rfl (by decide +kernel) k
theorem i_tuple_tuple {x : List D} {R : D → Sto → Prop} {st : Sto} (k : R (.bl true) st) : wp (isiM "tuple" (.tup x)) R st := w_isi (t := "tuple") (b := true) rfl (by decide +kernel) k
theorem i_tuple_list {x : List D} {R : D → Sto → Prop} {st : Sto} (k : R (.bl false) st) : wp (isiM "tuple" (.lst x)) R st := w_isi (t := "list") (b := false) rfl (by decide +kernel) k
theorem i_str_NoneType {R : D → Sto → Prop} {st : Sto} (k : R (.bl false) st) : wp (isiM "str" .non) R st := w_isi (t := "NoneType") (b := false) rfl (by decide +kernel) k
theorem i_str_bool {x : Bool} {R : D → Sto → Prop} {st : Sto} (k : R (.bl false) st) : wp (isiM "str" (.bl x)) R st := w_isi (t := "bool") (b := false) rfl (by decide +kernel) k
theorem i_str_int {x : Int} {R : D → Sto → Prop} {st : Sto} (k : R (.bl false) st) : wp (isiM "str" (.int x)) R st := w_isi (t := "int") (b := false) rfl (by decide +kernel) k
theorem i_str_str {x : Str} {R : D → Sto → Prop} {st : Sto} (k : R (.bl true) st) : wp (isiM "str" (.str x)) R st := w_isi (t := "str") (b := true) rfl (by decide +kernel) k
theorem i_str_tuple {x : List D} {R : D → Sto → Prop} {st : Sto} (k : R (.bl false) st) : wp (isiM "str" (.tup x)) R st := w_isi (t := "tuple") (b := false) rfl (by decide +kernel) k
theorem i_str_list {x : List D} {R : D → Sto → Prop} {st : Sto} (k : R (.bl false) st) : wp (isiM "str" (.lst x)) R st := w_isi (t := "list") (b := false) rfl (by decide +kernel) k
theorem i_int_NoneType {R : D → Sto → Prop} {st : Sto} (k : R (.bl false) st) : wp (isiM "int" .non) R st := w_isi (t := "NoneType") (b := false) rfl (by decide +kernel) k
theorem i_int_bool {x : Bool} {R : D → Sto → Prop} {st : Sto} (k : R (.bl true) st) : wp (isiM "int" (.bl x)) R st := w_isi (t := "bool") (b := true) rfl (by decide +kernel) k
theorem i_int_int {x : Int} {R : D → Sto → Prop} {st : Sto} (k : R (.bl true) st) : wp (isiM "int" (.int x)) R st := w_isi (t := "int") (b := true) rfl (by decide +kernel) k
theorem i_int_str {x : Str} {R : D → Sto → Prop} {st : Sto} (k : R (.bl false) st) : wp (isiM "int" (.str x)) R st := w_isi (t := "str") (b := false) rfl (by decide +kernel) k
theorem i_int_tuple {x : List D} {R : D → Sto → Prop} {st : Sto} (k : R (.bl false) st) : wp (isiM "int" (.tup x)) R st := w_isi (t := "tuple") (b := false) rfl (by decide +kernel) k
theorem i_int_list {x : List D} {R : D → Sto → Prop} {st : Sto} (k : R (.bl false) st) : wp (isiM "int" (.lst x)) R st := w_isi (t := "list") (b := false) rfl (by decide +kernel) k
theorem i_bool_NoneType {R : D → Sto → Prop} {st : Sto} (k : R (.bl false) st) : wp (isiM "bool" .non) R st := w_isi (t := "NoneType") (b := false) rfl (by decide +kernel) k
theorem i_bool_bool {x : Bool} {R : D → Sto → Prop} {st : Sto} (k : R (.bl true) st) : wp (isiM "bool" (.bl x)) R st := w_isi (t := "bool") (b := true) rfl (by decide +kernel) k
theorem i_bool_int {x : Int} {R : D → Sto → Prop} {st : Sto} (k : R (.bl false) st) : wp (isiM "bool" (.int x)) R st := w_isi (t := "int") (b := false) rfl (by decide +kernel) k
theorem i_bool_str {x : Str} {R : D → Sto → Prop} {st : Sto} (k : R (.bl false) st) : wp (isiM "bool" (.str x)) R st := w_isi (t := "str") (b := false) rfl (by decide +kernel) k
theorem i_bool_tuple {x : List D} {R : D → Sto → Prop} {st : Sto} (k : R (.bl false) st) : wp (isiM "bool" (.tup x)) R st := w_isi (t := "tuple") (b := false) rfl (by decide +kernel) k
theorem i_bool_list {x : List D} {R : D → Sto → Prop} {st : Sto} (k : R (.bl false) st) : wp (isiM "bool" (.lst x)) R st := w_isi (t := "list") (b := false) rfl (by decide +kernel) k
theorem i_list_NoneType {R : D → Sto → Prop} {st : Sto} (k : R (.bl false) st) : wp (isiM "list" .non) R st := w_isi (t := "NoneType") (b := false) rfl (by decide +kernel) k
theorem i_list_bool {x : Bool} {R : D → Sto → Prop} {st : Sto} (k : R (.bl false) st) : wp (isiM "list" (.bl x)) R st := w_isi (t := "bool") (b := false) rfl (by decide +kernel) k
theorem i_list_int {x : Int} {R : D → Sto → Prop} {st : Sto} (k : R (.bl false) st) : wp (isiM "list" (.int x)) R st := w_isi (t := "int") (b := false) rfl (by decide +kernel) k
theorem i_list_str {x : Str} {R : D → Sto → Prop} {st : Sto} (k : R (.bl false) st) : wp (isiM "list" (.str x)) R st := w_isi (t := "str") (b := false) rfl (by decide +kernel) k
theorem i_list_tuple {x : List D} {R : D → Sto → Prop} {st : Sto} (k : R (.bl false) st) : wp (isiM "list" (.tup x)) R st := w_isi (t := "tuple") (b := false) rfl (by decide +kernel) k
theorem i_list_list {x : List D} {R : D → Sto → Prop} {st : Sto} (k : R (.bl true) st) : wp (isiM "list" (.lst x)) R st := w_isi (t := "list") (b := true) rfl (by decide +kernel) k
theorem n_is_NoneType {R : D → Sto → Prop} {st : Sto} (k : R (.bl true) st) : wp (isNM .non) R st := by first | exact k | exact ⟨k⟩
theorem n_not_NoneType {R : D → Sto → Prop} {st : Sto} (k : R (.bl false) st) : wp (notNM .non) R st := by first | exact k | exact ⟨k⟩
theorem n_is_bool {x : Bool} {R : D → Sto → Prop} {st : Sto} (k : R (.bl false) st) : wp (isNM (.bl x)) R st := by first | exact k | exact ⟨k⟩
theorem n_not_bool {x : Bool} {R : D → Sto → Prop} {st : Sto} (k : R (.bl true) st) : wp (notNM (.bl x)) R st := by first | exact k | exact ⟨k⟩
theorem n_is_int {x : Int} {R : D → Sto → Prop} {st : Sto} (k : R (.bl false) st) : wp (isNM (.int x)) R st := by first | exact k | exact ⟨k⟩
theorem n_not_int {x : Int} {R : D → Sto → Prop} {st : Sto} (k : R (.bl true) st) : wp (notNM (.int x)) R st := by first | exact k | exact ⟨k⟩
theorem n_is_str {x : Str} {R : D → Sto → Prop} {st : Sto} (k : R (.bl false) st) : wp (isNM (.str x)) R st := by first | exact k | exact ⟨k⟩
theorem n_not_str {x : Str} {R : D → Sto → Prop} {st : Sto} (k : R (.bl true) st) : wp (notNM (.str x)) R st := by first | exact k | exact ⟨k⟩
theorem n_is_tuple {x : List D} {R : D → Sto → Prop} {st : Sto} (k : R (.bl false) st) : wp (isNM (.tup x)) R st := by first | exact k | exact ⟨k⟩
theorem n_not_tuple {x : List D} {R : D → Sto → Prop} {st : Sto} (k : R (.bl true) st) : wp (notNM (.tup x)) R st := by first | exact k | exact ⟨k⟩
theorem n_is_list {x : List D} {R : D → Sto → Prop} {st : Sto} (k : R (.bl false) st) : wp (isNM (.lst x)) R st := by first | exact k | exact ⟨k⟩
theorem n_not_list {x : List D} {R : D → Sto → Prop} {st : Sto} (k : R (.bl true) st) : wp (notNM (.lst x)) R st := by first | exact k | exact ⟨k⟩
end PL

set_option linter.all false
set_option maxRecDepth 100000
set_option maxHeartbeats 4000000
/-! PL16: own exceptions with two fields are raised. -/
namespace PL
open PySem PySem.Spec L2
variable {wW : World}
/-- what an __init__ that keeps two fields does -/
def spXi (C : Addr) (f g : Str) : Sp := fun vs H Q _ => ∃ a y z, vs = [.ref a, y, z] ∧ H a = some (exo a C none) ∧ ∀ d, H d = none → d ≠ a → Q .non (upd (upd (upd H d (exd d [(f, y)])) a (exo a C (some d))) d (exd d [(g, z), (f, y)]))
/-- an own exception class x with the fields f and g -/
structure Xc (P : Program) (w : World) (K : PySem.W.Frag) (mg : Str → Option Value) (base : Heap) (x f g : Str) : Prop where
  ex : ∃ C fI fd, OexC K C ∧ PySem.W.findIn K (.ref C) "__init__" = some (some (.ref fI)) ∧ PySem.W.typeIn K (.ref fI) = some (.type "function") ∧ FnOk P w K mg base (L2.CX P w) 1 fI fd ["self", f, g] (spXi C f g) ∧ mg x = some (.ref C) ∧ Binds K fd ["self", f, g] [] ∧
    XfC K C ∧ PySem.W.findIn K (.ref C) f = some none ∧ PySem.W.findIn K (.ref C) g = some none ∧ PySem.W.exmOne K (.ref C) (.ref C) = some true
section
variable {P : Program} {w : World} {K : PySem.W.Frag} {mg : Str → Option Value} {base : Heap}
theorem init_two {qual f g : Str} {st : Stmt} {C fI : Addr} {fd : FuncData} {p1 p2 p3 p4 p5 p6 p7 p8 : Pos} (F : Fun K "__init__" qual st fI fd) (S : FnScope ["self", f, g] ["self", f, g] (defScope st)) (T : OexC K C) (hf : PySem.W.findIn K (.ref C) f = some none) (hg : PySem.W.findIn K (.ref C) g = some none)
    (hb : defBody st = [.Assign [.Attribute (.Name "self" p1) f p2] (.Name f p3) p4, .Assign [.Attribute (.Name "self" p5) g p6] (.Name g p7) p8])
    (vs : Vis (defScope st) "self") (vf : Vis (defScope st) f) (vg : Vis (defScope st) g) (df : (f == ("__debug__" : Str)) = false) (dg : (g == ("__debug__" : Str)) = false) (cf : (f == ("__classdict__" : Str)) = false) (cg : (g == ("__classdict__" : Str)) = false) :
    FnOk P w K mg base (L2.CX P w) 1 fI fd ["self", f, g] (spXi C f g) := by
  refine F.okX S (fun vs H Q E h => ?_) (fun cdv A outer s H vs0 Q E hr h => ?_)
  · obtain ⟨a, y, z, rfl, _⟩ := h; rfl
  · obtain ⟨a, y, z, rfl, ha, q⟩ := h
    rw [hb]
    refine ⟨_, pss_cons (ps_ost (pe_var (i := 0) rfl vs) (pe_var (i := 1) rfl vf df cf)) (pss_one (ps_ost (pe_var (i := 0) rfl vs) (pe_var (i := 2) rfl vg dg cg))), ?_⟩
    refine ⟨y, rfl, .ref a, rfl, a, C, rfl, T, hf, .inl ⟨ha, fun d hd hne => ?_⟩⟩
    refine ⟨z, rfl, .ref a, rfl, a, C, rfl, T, hg, .inr ⟨d, [(f, y)], upd_same, ?_, by simp, ?_⟩⟩
    · rw [upd_ne hne, upd_same]
    · exact q d hd hne
end
def sRaise (x f g : Str) (ga : En → M (List D)) : En → M (Fl × En) := fun ρ => (ga ρ).bind fun ds => match ds with
  | [a, b] => M.raise ⟨x, [(g, b), (f, a)]⟩
  | _ => M.bad
section
variable {X : Cx} {E : XK} {Φ : Ent} {ga : En → M (List D)} {e1 e2 : Expr}
theorem js_raise {x f g : Str} {p pos rpos : Pos} (hc : X.calm = true) (tk : Takes X fun cls d _ H => E cls d H) (C : Xc X.prog X.w X.K X.mg X.base x f g) (hr : Room 2 X.A) (ha : JA X E Φ.H ga [e1, e2]) (hg : Gl X x := by rfl) (hdb : (x == ("__debug__" : Str)) = false := by decide)
    (he : starEach [e1, e2] X.env = (false, eval e1 X.env) :: starEach [e2] X.env := by rfl) (hpl : (backTo pos (starEach [e2] X.env)).any (·.1) = false := by rfl) : JS X E Φ (sRaise x f g ga) (.Raise (some (.Call (.Name x p) [e1, e2] [] pos)) none rpos) := by
  obtain ⟨C, fI, fd, T, iC, tI, F1, hm, hb, _⟩ := C.ex
  refine PS.imp (ps_raise hc tk (pmk_oex T iC tI F1 hr hb .nil px hg hm ha hdb he hpl)) fun Dn σ H ⟨G, μ, st, ρ, w, er, s, p⟩ => ?_
  refine ⟨G, μ, st, ρ, w, er, p.bind s fun ds st1 vs H1 G1 μ1 w1 s1 t1 r1 q1 => ?_⟩
  match ds, vs, r1, q1 with
  | [a, b], [va, vb], .cons ra (.cons rb .nil), q1 =>
    refine ⟨by simp, fun i hi => ⟨i, va, vb, rfl, upd_same, fun d hd hne => ⟨rfl, d, _, ?_, upd_same, ?_, ?_⟩⟩⟩
    · rw [upd_ne (Ne.symm hne), upd_same]
    · rw [upd_ne hne] at hd; exact hd
    · rw [upd_ne hne] at hd
      have e : upd (del (upd (upd (upd (upd H1 i (exo i C none)) d (exd d [(f, va)])) i (exo i C (some d))) d (exd d [(g, vb), (f, va)])) i) d (.xd [(g, vb), (f, va)]) = upd H1 d (.xd [(g, vb), (f, va)]) := by
        funext b
        by_cases h1 : b = d
        · rw [h1, upd_same, upd_same]
        · rw [upd_ne h1, upd_ne h1]
          by_cases h2 : b = i
          · rw [h2, del_same, hi]
          · rw [del_ne h2, upd_ne h1, upd_ne h2, upd_ne h1, upd_ne h2]
      rw [e]
      obtain ⟨w2, s2⟩ := w1.lay (o := .xd [(g, vb), (f, va)]) hd
      exact q1 _ _ _ _ _ w2 (t1.trans s2) ⟨hm, d, _, rfl, upd_same, rfl, .cons rb (.cons ra .nil)⟩
  | [], _, _, q1 => exact q1.elim
  | [_], _, _, q1 => exact q1.elim
  | _ :: _ :: _ :: _, _, _, q1 => exact q1.elim
end
end PL

set_option linter.all false
set_option maxRecDepth 100000
set_option maxHeartbeats 4000000
/-! PL17: what a def hears of a lambda without parameters: ("gave", what it gives), or the fields of the one exception that is caught. -/
namespace PL
open PySem PySem.Spec L2 LamX PyProof.Rows
variable {wW : World}
abbrev lamQ (X : Cx) : Str := X.env.qual ++ "<lambda>"
/-- the lambda's def f with its code at k: all that is known of it in the heap H of s -/
structure Lam (X : Cx) (pins : List (Addr × Obj)) (σ : L2.St) (params : Arguments) (body : Expr) (scope : Scope) (f k : Addr) (pm tv : Value) (H : Hp) (s : Shared) : Prop where
  inv : Inv X pins σ H s
  at_ : s.heap.get? f = some (PySem.W.kla_obj "<lambda>" (lamQ X) params body scope (cloFrom X.env.cells scope.names []) pm k tv)
  new : H f = none
  out : f ∉ frs X.stack
  code : H k = some (CodeO k (lamQ X))
section
variable {X : Cx} {pins : List (Addr × Obj)} {σ : L2.St} {H : Hp} {s : Shared} {params : Arguments} {body : Expr} {scope : Scope}
theorem out_new (I : Inv X pins σ H s) {f : Addr} (hf : s.heap.objs.size ≤ f) : f ∉ frs X.stack := fun z => by
  rcases List.mem_cons.mp (I.stkSub _ z) with rfl | e
  · exact Nat.lt_irrefl _ (Nat.lt_of_lt_of_le I.lt hf)
  · exact I.nofs hf e
theorem lam_eval {c P : Addr} {ps : Array Value} {pos : Pos} {E Q : Value → Shared → Prop} (I : Inv X pins σ H s) (TB : TabB X.base X.mg c P) (hc : X.env.code = .ref c) (hP : H P = some (.tbl ps)) (ht : TriplesOk ps.toList)
    (ha : ∀ (q : Pos) (cv : Value), codeAmong q ps.toList = some cv → ∃ k, cv = .ref k ∧ H k = some (CodeO k (lamQ X))) (hd : defaultsOf params X.env = ([], [])) (hfree : ∀ y ∈ scope.names, y.2 = .free → ∃ c, X.env.cells.lookup y.1 = some c)
    (old : ∀ f k pm tv s', Lam X pins σ params body scope f k pm tv H s' → Q (.ref f) s')
    (new : ∀ f k pm tv s' (qs : Array Value), H k = none → TriplesOk qs.toList → (∀ (q : Pos) (cv : Value), codeAmong q qs.toList = some cv → cv = .ref k ∨ codeAmong q ps.toList = some cv) → Lam X pins σ params body scope f k pm tv (upd (upd H P (.tbl qs)) k (CodeO k (lamQ X))) s' → Q (.ref f) s') :
    wpAny (model X.prog X.w) X.A (eval (.Lambda params body scope pos) X.env) Q E s := by
  have hb := TB.bm.keeps I.bk
  have hcd := TB.code.keeps I.bk
  have hPs : s.heap.get? P = some { cls := .none, data := .fields ps } := I.hok P _ hP
  refine PySem.W.kla_eval hd ?_
  rcases hh : codeAmong pos ps.toList with _ | cv
  · refine PySem.W.kla_makeFunction (mg := X.mg) (c := c) (P := P) (ps := ps) (closure_ok hfree) I.ok.glob (I.mod.glob.keeps I.bk) hc hcd hPs ht hh TB.gP hb fun k tv h' tk hx hge hlt hrec htb => ?_
    obtain ⟨_, oc, vs, t, e2, hoc, hdd, hv⟩ := hrec
    cases e2
    have hsz := Nat.le_trans hge (Nat.le_of_lt hlt)
    have J := inv_table (t' := tk) (more := #[rawInt pos.line, rawInt pos.col, .ref k]) (h' := h'.push (PySem.W.kla_obj "<lambda>" (lamQ X) params body scope (cloFrom X.env.cells scope.names []) ((X.mg "__name__").getD .none) k tv)) I hP
      (fun b o n e => Heap.get?_push_of_some _ (hx b o n e)) (Heap.get?_push_of_some _ htb) hge ⟨oc, vs, t, Heap.get?_push_of_some _ hoc, hdd, hv⟩
    have e3 : (ps ++ #[rawInt pos.line, rawInt pos.col, .ref k]).toList = ps.toList ++ [rawInt pos.line, rawInt pos.col, .ref k] := by simp
    refine new h'.objs.size k _ tv _ _ (I.hok.fresh hge) (by rw [e3]; exact PySem.TriplesOk_snoc _ _ _ _ ht) (fun q cv hcv => ?_) ⟨J, Heap.get?_push_size _ rfl, ?_, out_new I hsz, upd_same⟩
    · rw [e3] at hcv
      exact (among_app _ ht hcv).symm
    · rw [upd_ne (Nat.ne_of_gt hlt), upd_ne (Nat.ne_of_gt (Nat.lt_of_lt_of_le (Heap.lt_size hPs) hsz))]
      exact I.hok.fresh hsz
  · obtain ⟨k, rfl, hk⟩ := ha pos cv hh
    refine PySem.W.kla_makeFunctionHit (mg := X.mg) (c := c) (P := P) (ps := ps) (closure_ok hfree) I.ok.glob (I.mod.glob.keeps I.bk) hc hcd hPs ht hh hb fun tv h' tk hx hsz => ?_
    exact old h'.objs.size k _ tv _ ⟨I.kept fun b o e => Heap.get?_push_of_some _ (hx b o e), Heap.get?_push_size _ rfl, I.hok.fresh hsz, out_new I hsz, hk⟩
end
/-- the reading of x(lambda: body): TT is what x makes of the lambda's reading t -/
def tLamH (P : Addr) (q : Str) (TT : (XK → Hp → VK → Prop) → Hp → VK → Prop) (t : XK → TE) : TE := fun σ H Q => ∃ ps : Array Value, H P = some (.tbl ps) ∧ TriplesOk ps.toList ∧ (∀ (z : Pos) (cv : Value), codeAmong z ps.toList = some cv → ∃ k, cv = .ref k ∧ H k = some (CodeO k q)) ∧
  TT (fun E H' Q' => t E σ H' Q') H Q ∧ ∀ (k : Addr) (qs : Array Value), H k = none → TriplesOk qs.toList → (∀ (z : Pos) (cv : Value), codeAmong z qs.toList = some cv → cv = .ref k ∨ codeAmong z ps.toList = some cv) → TT (fun E H' Q' => t E σ H' Q') (upd (upd H P (.tbl qs)) k (CodeO k q)) Q
/-- a def x of one parameter a that hears what it is given; TT: what it makes of it -/
structure Hears (P : Program) (w : World) (K : PySem.W.Frag) (mg : Str → Option Value) (x a : Str) (TT : (XK → Hp → VK → Prop) → Hp → VK → Prop) : Prop where
  ex : ∃ (g : Addr) (pg : Arguments) (bg : List Stmt) (sg : Scope) (dV kV doc pm cdv ct oc : Value) (an od : Option Addr) (osl : Array (Option Value)) (Ng : List Str), mg x = some (.ref g) ∧ PySem.W.keepIn K (.ref g) = true ∧ K.lookup g = some ⟨oc, od, .func (PySem.W.fnOf x x pg bg sg dV kV doc pm an cdv ct), osl⟩ ∧ PySem.W.codeIn K cdv x = true ∧
    Binds K (PySem.W.fnOf x x pg bg sg dV kV doc pm an cdv ct) [a] [] ∧ FnScope Ng [a] sg ∧ Ng[0]? = some a ∧ Vis sg a ∧ ∀ (X : Cx) (q : Str), X.prog = P → X.w = w → X.K = K → X.mg = mg → GivesTo X Ng x sg g cdv bg a q TT
section
variable {X : Cx}
theorem pe_lamH {TT : (XK → Hp → VK → Prop) → Hp → VK → Prop} {x a : Str} {c P : Addr} {k : Nat} {params : Arguments} {body : Expr} {scope : Scope} {t : XK → TE} {p lpos pos : Pos} (R : Hears X.prog X.w X.K X.mg x a TT) (hg : Gl X x) (TB : TabB X.base X.mg c P) (hc : X.env.code = .ref c) (hr : Room (k + 2) X.A)
    (L : LamS X.env.scope scope) (hdef : defaultsOf params X.env = ([], [])) (hbind : ∀ (q : Str) (cl : List (Str × Addr)) (pm cv tv : Value), bindArgs (PySem.W.kla_fn "<lambda>" q params body scope cl pm cv tv) ⟨[], []⟩ = pure [])
    (hbody : ∀ (A : Around) (outer : List Env) (s : Shared) (H : Hp) (E : XK) (f c' : Addr), Room k (A.deeper (lamEnv X scope s.heap.objs.size f c')) → PE (lamCx X A outer s H E scope f c') body (t E))
    (hdb : (x == ("__debug__" : Str)) = false := by decide) (hd : (a == ("__debug__" : Str)) = false := by decide) (hcd : (a == ("__classdict__" : Str)) = false := by decide) :
    PE X (.Call (.Name x p) [.Lambda params body scope lpos] [] pos) (tLamH P (lamQ X) TT t) := by
  obtain ⟨g, pg, bg, sg, dV, kV, doc, pm, cdv, ct, oc, an, od, osl, Ng, hm, hk, lk, hcg, hb, Sg, hNg, hva, hG⟩ := R.ex
  refine ⟨fun pins s σ H Q I h => ?_⟩
  obtain ⟨ps, hP, ht, ha, h0, h1⟩ := h
  have go : ∀ (f k' : Addr) (pm' tv : Value) (H1 : Hp) (s' : Shared), Lam X pins σ params body scope f k' pm' tv H1 s' → TT (fun E H' Q' => t E σ H' Q') H1 Q → X.K.In s'.heap ∧ wpAny (model X.prog X.w) X.A (call (.ref g) [.ref f]) (CE X.stack X.prog X.w H1 s' Q) X.xe s' := fun f k' pm' tv H1 s' l q => by
    refine ⟨l.inv.kIn, ?_⟩
    have rc : codeAny (model X.prog X.w) X.A (.call (.ref g) ⟨[.ref f], []⟩) (CR C8.CX0 X.stack X.prog X.w H1 s' Q C8.E0) s' := by
      refine run_ofS (N := Ng) (ps := [a]) (us := [.ref f]) (vs := [.ref f]) lk hcg Sg hr l.inv.env0 (hb s' [.ref f] l.inv.kIn rfl) (.cons rfl .nil) rfl fun hr' => ?_
      obtain ⟨u, hu, hq⟩ := hG X (lamQ X) rfl rfl rfl rfl f k' s' H1 Q (fun E H' Q' => t E σ H' Q') (fun W pn xe E p1 p2 tk hW => pe_act (i := 0) l.inv L l.at_ l.new l.out (hbind _ _ _ _ _) tk hW hr' (fun A outer s H hr2 => hbody A outer s H E f k' hr2) hNg hva hd hcd) l.code q
      exact ⟨u, hu.nox, hq⟩
    refine wpAny_call (codeAny_mono rc fun r s2 hq => ?_)
    cases r with
    | error e => exact (show False from hq).elim
    | ok fl =>
      cases fl with
      | ret u => exact hq
      | next => exact False.elim hq
      | brk => exact False.elim hq
      | cont => exact False.elim hq
  refine wpAny_Call_Name_kw (ld_glob I hg hm ?_ hdb)
  refine PySem.W.callWith_K (h₀ := X.base) I.ok.mod.kin hk ?_ (by rfl) (by rfl)
  show wpAny _ _ (spliced ((false, eval (.Lambda params body scope lpos) X.env) :: backTo pos (starEach [] X.env))) _ _ s
  refine Calls.spliced_cons (lam_eval I TB hc hP ht ha hdef (L.has I.ok) (fun f k' pm' tv s' l => ?_) fun f k' pm' tv s' qs e1 e2 e3 l => ?_)
  · obtain ⟨r1, r2⟩ := go f k' pm' tv _ s' l h0
    exact Calls.spliced_nil ⟨r1, wpAny_mono r2 (fun u s2 hq => l.inv.after hq) fun _ _ z => z⟩
  · obtain ⟨r1, r2⟩ := go f k' pm' tv _ s' l (h1 k' qs e1 e2 e3)
    exact Calls.spliced_nil ⟨r1, wpAny_mono r2 (fun u s2 hq => l.inv.after hq) fun _ _ z => z⟩
end
end PL

set_option linter.all false
set_option maxRecDepth 100000
set_option maxHeartbeats 4000000
/-! PL18: try: return ("gave", ask()) / except x as e: return (x, e.f, e.g), and what is heard so. -/
namespace PL
open PySem PySem.Spec L2 LamX PyProof.Rows
variable {wW : World}
theorem Takes.len {X : Cx} {W : WX} (t : Takes X W) : Takes X (fun cls d σ H => σ.length = X.N.length → W cls d σ H) := fun u s' ⟨a, B, sI, pins, σ, H, cls, d, e, I, nb, up, sky, na, os, ag, w⟩ =>
  t u s' ⟨a, B, sI, pins, σ, H, cls, d, e, I, nb, up, sky, na, os, ag, w I.len⟩
/-- what the caught fields give: ret, e.f, e.g -/
def kCaught (CS : Addr) (ret f g : Str) (Q : VK) : XK := fun cls d H' => cls = .ref CS ∧ ∃ dd fs v1 v2, d = some dd ∧ H' dd = some (.xd fs) ∧ fs.lookup f = some v1 ∧ fs.lookup g = some v2 ∧ ∀ p, H' p = none → Q (.ref p) (upd H' p (.tup [.str ret, v1, v2]))
def kGave (Q : VK) : VK := fun v H' => ∀ p, H' p = none → Q (.ref p) (upd H' p (.tup [.str "gave", v]))
def tHear (CS : Addr) (ret f g : Str) : (XK → Hp → VK → Prop) → Hp → VK → Prop := fun tl H Q => tl (kCaught CS ret f g Q) H (kGave Q)
section
variable {X : Cx}
theorem hear_gives {x a e q ret cx f g : Str} {sg : Scope} {gd CS : Addr} {cdg : Value} {j j2 k1 k2 : Nat} {p1 p2 p3 p4 p5 p6 p7 p8 p9 p10 p11 p12 p13 p14 p15 : Pos} (T : XfC X.K CS) (hf : PySem.W.findIn X.K (.ref CS) f = some none) (hg : PySem.W.findIn X.K (.ref CS) g = some none) (hx : PySem.W.exmOne X.K (.ref CS) (.ref CS) = some true)
    (hge : sg.names.lookup cx = some .globalImplicit) (hme : X.mg cx = some (.ref CS)) (hde : (cx == ("__debug__" : Str)) = false) (hne : ([a, e] : List Str).Nodup) (hle : sg.names.lookup e = some .local) (hee : (e == ("__debug__" : Str)) = false) (hec : (e == ("__classdict__" : Str)) = false) :
    GivesTo X [a, e] x sg gd cdg [.Try [.Return (some (.Tuple [.Constant (.str "gave") j p5, .Call (.Name a p1) [] [] p2] k1 p6)) p3]
      [.ExceptHandler (some (.Name cx p4)) (some e) [.Return (some (.Tuple [.Constant (.str ret) j2 p9, .Attribute (.Name e p10) f p11, .Attribute (.Name e p12) g p13] k2 p14)) p15] p7] [] [] p8] a q (tHear CS ret f g) := by
  intro f0 c' s H Q tl act hc h
  have hgl : Gl (cxOf C8.CX0 X.prog X.w X.K X.mg X.base [a, e] x sg gd cdg X.A X.stack s H C8.E0).nox cx := hge
  refine ⟨_, pss_one (ps_try_as (X := (cxOf C8.CX0 X.prog X.w X.K X.mg X.base [a, e] x sg gd cdg X.A X.stack s H C8.E0).nox) (c := .ref CS) (i := 1)
      (tb := fun W D σ H => ∃ Ech : XK, (∀ cls d σ' H', Ech cls d H' → σ'.length = 2 → W cls d σ' H') ∧ σ[0]? = some (some (.ref f0)) ∧ H c' = some (CodeO c' q) ∧ tl Ech H (kGave D.rt))
      rfl rfl hne rfl hle ⟨hgl, hde, .inl hme⟩ L2.takes0 (fun W pn xe tk _ => ?_) fun b oe cls d pn hz hfd => pss_one (ps_ret (pe_tup (pa_cons pe_str (pa_cons (pe_xf T hf hz hfd (pe_var (i := 1) rfl (.inl hle) hee hec)) (pa_cons (pe_xf T hg hz hfd (pe_var (i := 1) rfl (.inl hle) hee hec)) pa_nil)))))), ?_⟩
  · refine ⟨fun pins s' σ H' D I h' => ?_⟩
    obtain ⟨Ech, hW, h1, h2, h3⟩ := h'
    have hp := act (fun cls d σ H => σ.length = 2 → W cls d σ H) pn xe Ech p1 p2 (Takes.len tk) (fun cls d σ' H' e => hW cls d σ' H' e)
    refine (pss_one (ps_ret (pos := p3) (pe_tup (x1 := k1) (pos := p6) (pa_cons pe_str (pa_cons hp pa_nil))))).run pins s' σ H' D I ?_
    refine ⟨h1, h2, ?_⟩
    have e : (kGave D.rt) = fun x H1 => ([.str "gave", x] : List V).length ≤ sizeLine ∧ ∀ p, H1 p = none → D.rt (.ref p) (upd H1 p (.tup [.str "gave", x])) := by
      funext x H1
      exact propext ⟨fun z => ⟨by show 2 ≤ sizeLine; decide, z⟩, fun z => z.2⟩
    rw [e] at h3
    exact h3
  · refine ⟨kCaught CS ret f g Q, fun cls d σ' H' hk hl => ?_, rfl, hc, h⟩
    obtain ⟨rfl, dd, fs, v1, v2, rfl, h1, h2, h3, h4⟩ := hk
    refine ⟨true, hx, fun _ b hb => ?_, fun z => nomatch z⟩
    have es : (σ'.set 1 (some (V.ref b)))[1]? = some (some (V.ref b)) := List.getElem?_set_self (by omega)
    refine ⟨.ref b, es, rfl, rfl, dd, fs, v1, rfl, h1, h2, ?_⟩
    refine ⟨.ref b, es, rfl, rfl, dd, fs, v2, rfl, h1, h3, ?_⟩
    exact ⟨by show 3 ≤ sizeLine; decide, h4⟩
def tabIs (P : Addr) (q : Str) : Ob → Bool
  | .tab P' q' => decide (P' = P ∧ q' = q)
  | _ => false
/-- what the law's own def hears -/
def eHear (P : Addr) (q x f g : Str) (b : En → M D) : En → M D := fun ρ st => if st.any (tabIs P q) = true then match b ρ st with
  | .ok d st' => .ok (.tup [.str "gave", d]) st'
  | .err ⟨c, fs⟩ st' => match fs with
    | [(g', v2), (f', v1)] => if c = x ∧ g' = g ∧ f' = f ∧ f ≠ g then .ok (.tup [.str x, v1, v2]) st' else .bad
    | _ => .bad
  | .bad => .bad
  else .bad
def lq (x : Str) : Str := x ++ ".<locals>." ++ "<lambda>"
theorem lamQ_cx {CX : CXT} {P : Program} {w : World} {K : PySem.W.Frag} {mg : Str → Option Value} {base : Heap} {N : List Str} {x : Str} {sc : Scope} {f : Addr} {cdv : Value} {A : Around} {outer : List Env} {s : Shared} {H : Hp} {E : XK} : lamQ (cxOf CX P w K mg base N x sc f cdv A outer s H E) = lq x := rfl
theorem je_hear {P c : Addr} {qq x a cx f g : Str} {k : Nat} {CS : Addr} {params : Arguments} {body : Expr} {scope : Scope} {p lpos pos : Pos} {E : XK} {H0 : Hp} {b : En → M D} (R : Hears X.prog X.w X.K X.mg x a (tHear CS cx f g)) (hmx : X.mg cx = some (.ref CS)) (TB : TabB X.base X.mg c P) (hc : X.env.code = .ref c) (hr : Room (k + 2) X.A)
    (hbody : ∀ (A : Around) (outer : List Env) (s : Shared) (H : Hp) (E : XK) (f c' : Addr), Room k (A.deeper (lamEnv X scope s.heap.objs.size f c')) → JE (lamCx X A outer s H E scope f c') E H0 b body)
    (L : LamS X.env.scope scope) (hq : lamQ X = qq) (hg : Gl X x := by rfl) (hdef : defaultsOf params X.env = ([], []) := by rfl) (hbind : ∀ (q : Str) (cl : List (Str × Addr)) (pm cv tv : Value), bindArgs (PySem.W.kla_fn "<lambda>" q params body scope cl pm cv tv) ⟨[], []⟩ = pure [] := by intros; rfl)
    (hdb : (x == ("__debug__" : Str)) = false := by decide) (hd : (a == ("__debug__" : Str)) = false := by decide) (hcd : (a == ("__classdict__" : Str)) = false := by decide) :
    JE X E H0 (eHear P qq cx f g b) (.Call (.Name x p) [.Lambda params body scope lpos] [] pos) := by
  subst hq
  refine PE.imp (pe_lamH (t := fun E' => Se X E' H0 (rRep X.K) b) R hg TB hc hr L hdef hbind (fun A outer s H E' f c' hr => hbody A outer s H E' f c' hr) hdb hd hcd) fun σ H Q ⟨G, μ, st, ρ, w, er, q⟩ => ?_
  unfold eHear at q
  by_cases ht : st.any (tabIs P (lamQ X)) = true
  · rw [if_pos ht] at q
    obtain ⟨o, ho, hoe⟩ := List.any_eq_true.mp ht
    obtain ⟨n, hn⟩ := List.getElem?_of_mem ho
    cases o with
    | dict _ => cases hoe
    | lst _ => cases hoe
    | ins _ _ => cases hoe
    | nd _ => cases hoe
    | tab P' q' =>
    obtain ⟨rfl, rfl⟩ := of_decide_eq_true hoe
    obtain ⟨a0, hm, ga, rfl, ps, hP, hT, hcode⟩ := w.obj n _ hn
    -- from any state that bears the store
    have core : ∀ H1 G1, Wd X.w X.K H1 G1 μ st → Stp H G μ H1 G1 μ → tHear CS cx f g (fun E' H' Q' => Se X E' H0 (rRep X.K) b σ H' Q') H1 Q := fun H1 G1 w1 s1 => by
      refine ⟨G1, μ, st, ρ, w1, er.step s1, ?_⟩
      cases hb : b ρ st with
      | bad => rw [hb] at q; exact q.elim
      | ok d st' =>
        rw [hb] at q
        intro v H' G' μ' w' t' r' p hp
        obtain ⟨w2, s2⟩ := w'.new (o := .tup [.str "gave", v]) hp
        exact q _ _ _ _ w2 (s1.trans (t'.trans s2)) (.tup (.inl (.inl upd_same)) (.cons (.str _) (.cons (r'.mono s2.g s2.m) .nil)))
      | err xx st' =>
        rw [hb] at q
        obtain ⟨cc, fs⟩ := xx
        intro cl dd H' G' μ' w' t' xr
        match fs, xr, q with
        | [(g', v2), (f', v1)], xr, q =>
          have q' : Post X.w X.K X.mg E (rRep X.K) H G μ (if cc = cx ∧ g' = g ∧ f' = f ∧ f ≠ g then Res.ok (D.tup [.str cx, v1, v2]) st' else Res.bad) Q := q
          by_cases hcnd : cc = cx ∧ g' = g ∧ f' = f ∧ f ≠ g
          · rw [if_pos hcnd] at q'
            obtain ⟨rfl, rfl, rfl, hfg⟩ := hcnd
            obtain ⟨hcl, d0, ws, rfl, hd0, hws, rw_⟩ := xr
            have hcl' : X.mg cc = some cl := hcl
            rw [hmx] at hcl'; cases hcl'
            match ws, hws, rw_, hd0 with
            | [(n2, w2), (n1, w1')], hws, .cons r2 (.cons r1 .nil), hd0 =>
              have e1 : n2 = g' := by simp at hws; exact hws.1
              have e2 : n1 = f' := by simp at hws; exact hws.2
              subst e1 e2
              refine ⟨rfl, d0, _, w1', w2, rfl, hd0, ?_, ?_, fun p hp => ?_⟩
              · have : (n1 == n2) = false := by simpa using hfg
                simp [List.lookup, this]
              · simp [List.lookup]
              · obtain ⟨w3, s3⟩ := w'.new (o := .tup [.str cc, w1', w2]) hp
                exact q' _ _ _ _ w3 (s1.trans (t'.trans s3)) (.tup (.inl (.inl upd_same)) (.cons (.str _) (.cons (r1.mono s3.g s3.m) (.cons (r2.mono s3.g s3.m) .nil))))
          · rw [if_neg hcnd] at q'
            exact q'.elim
        | [], _, q => exact q.elim
        | [_], _, q => exact q.elim
        | _ :: _ :: _ :: _, _, q => exact q.elim
    refine ⟨ps, hP, hT, fun z cv hz => ?_, core H G w .refl, fun k' qs hk hq hz => ?_⟩
    · obtain ⟨c2, e1, e2⟩ := hcode z cv hz
      exact ⟨c2, e1, w.imm _ _ e2⟩
    · have hPk : a0 ≠ k' := fun e => by rw [e, hk] at hP; cases hP
      obtain ⟨w1, s1⟩ := w.new (o := CodeO k' (lamQ X)) hk
      have ew : upd (upd H a0 (.tbl qs)) k' (CodeO k' (lamQ X)) = upd (upd H k' (CodeO k' (lamQ X))) a0 (.tbl qs) := by
        funext b
        by_cases h1 : b = k'
        · rw [h1, upd_same, upd_ne (Ne.symm hPk), upd_same]
        · by_cases h2 : b = a0
          · rw [upd_ne h1, h2, upd_same, upd_same]
          · rw [upd_ne h1, upd_ne h2, upd_ne h2, upd_ne h1]
      rw [ew]
      obtain ⟨w2, s2⟩ := w1.write (o := .tbl qs) (x := .tab a0 (lamQ X)) hn hm ⟨rfl, qs, upd_same, hq, fun z cv hh => by
        rcases hz z cv hh with e | e
        · exact ⟨k', e, upd_same⟩
        · obtain ⟨c2, e1, e2⟩ := hcode z cv e
          exact ⟨c2, e1, s1.g _ _ e2⟩⟩
      have e3 : st.set n (.tab a0 (lamQ X)) = st := by
        apply List.ext_getElem?
        intro m
        by_cases hm2 : n = m
        · subst hm2
          rw [List.getElem?_set_self (List.getElem?_eq_some_iff.mp hn).1, hn]
        · rw [List.getElem?_set_ne hm2]
      rw [e3] at w2
      exact core _ _ w2 (s1.trans s2)
  · rw [if_neg ht] at q
    exact q.elim
end
end PL

set_option linter.all false
set_option maxRecDepth 100000
set_option maxHeartbeats 4000000
/-! PL19: list comprehensions with two clauses; displays with a star. -/
namespace PL
open PySem PySem.Spec L2
variable {wW : World}
/-- the items of a clause, behind those that are there -/
def lcA (set : D → En → Option En) (tt : En → M Bool) (te : En → M D) (ρ : En) : List D → List D → M (List D)
  | acc, [] => M.pure acc
  | acc, d :: ds => (opt (set d ρ)).bind fun ρ' => (tt ρ').bind fun b => if b = true then (te ρ').bind fun y => (line (acc.length + 1)).bind fun _ => lcA set tt te ρ (acc ++ [y]) ds else lcA set tt te ρ acc ds
def lc2A (set : D → En → Option En) (tt : En → M Bool) (it1 : En → M (List D)) (set1 : D → En → Option En) (vs1 : List Nat) (tt1 : En → M Bool) (te : En → M D) (ρ : En) : List D → List D → M (List D)
  | acc, [] => M.pure acc
  | acc, d :: ds => (opt (set d ρ)).bind fun ρ' => (tt ρ').bind fun b => if b = true then (it1 ρ').bind fun es => (lcA set1 tt1 te (wipeE ρ' vs1) acc es).bind fun acc' => lc2A set tt it1 set1 vs1 tt1 te ρ acc' ds else lc2A set tt it1 set1 vs1 tt1 te ρ acc ds
def eLc2 (it : En → M (List D)) (p : Pt) (vs : List Nat) (tt : En → M Bool) (it1 : En → M (List D)) (p1 : Pt) (vs1 : List Nat) (tt1 : En → M Bool) (te : En → M D) : En → M (List D) := fun ρ => (it ρ).bind fun ds => noX (lc2A p.set tt it1 p1.set vs1 tt1 te (wipeE ρ vs) [] ds)
theorem noX_line (n : Nat) : noX (line n) = line n := by
  funext s
  unfold noX line
  by_cases h : n ≤ sizeLine
  · simp only [if_pos h]
  · simp only [if_neg h]
section
variable {X : Cx} {E : XK} {H0 : Hp} {it it1 : En → M (List D)} {pt pt1 : Pt} {vs vs1 : List Nat} {tt tt1 : En → M Bool} {te : En → M D}
/-- L, a list that is being made, out of the store and of the fixed part, holds acc -/
structure Lg (X : Cx) (L : Addr) (H G : Hp) (μ : Mu) (acc : List V) (accD : List D) : Prop where
  at_ : H L = some (.lst acc)
  rep : RepL X.K G μ acc accD
  g : G L = none
  n : ∀ k, μ k ≠ some L
theorem Lg.step {L : Addr} {H G H' G' : Hp} {μ μ' : Mu} {acc : List V} {accD : List D} (l : Lg X L H G μ acc accD) (z : Stp H G μ H' G' μ') : Lg X L H' G' μ' acc accD := by
  refine ⟨z.fr L _ l.at_ l.n, l.rep.mono z.g z.m, ?_, fun n e => ?_⟩
  · cases e : G' L with
    | none => rfl
    | some o => have := z.ng L l.g (by rw [e]; simp); rw [l.at_] at this; cases this
  · cases e' : μ n with
    | some b => have := z.m n b e'; rw [e] at this; cases this; exact l.n n e'
    | none => have := z.nm n L e' e; rw [l.at_] at this; cases this
theorem Lg.push {L : Addr} {H G : Hp} {μ : Mu} {acc : List V} {accD : List D} (l : Lg X L H G μ acc accD) {y : V} {dy : D} (r : Rep X.K G μ y dy) : Lg X L (upd H L (.lst (acc ++ [y]))) G μ (acc ++ [y]) (accD ++ [dy]) :=
  ⟨upd_same, l.rep.append (.cons r .nil), l.g, l.n⟩
/-- no slot's own list stands at L -/
def NL (L : Addr) (ρ : En) (σ : L2.St) : Prop := ∀ (k : Nat) ds, ρ[k]? = some (.own ds) → σ[k]? ≠ some (some (.ref L))
theorem setAll_own : ∀ {is : List Nat} {ds : List D} {ρ ρ' : En}, setAll is ds ρ = some ρ' → ∀ (k : Nat) es, ρ'[k]? = some (.own es) → ρ[k]? = some (.own es) ∧ k ∉ is
  | [], [], ρ, ρ', h, k, es, e => by cases h; exact ⟨e, List.not_mem_nil⟩
  | i :: is, d :: ds, ρ, ρ', h, k, es, e => by
    unfold setAll at h
    by_cases hi : i < ρ.length
    · rw [if_pos hi] at h
      obtain ⟨h1, h2⟩ := setAll_own h k es e
      by_cases hk : i = k
      · subst hk; rw [List.getElem?_set_self hi] at h1; cases h1
      · rw [List.getElem?_set_ne hk] at h1
        exact ⟨h1, fun z => (List.mem_cons.mp z).elim (fun z => hk z.symm) h2⟩
    · rw [if_neg hi] at h; cases h
  | [], _ :: _, _, _, h, _, _, _ => by cases h
  | _ :: _, [], _, _, h, _, _, _ => by cases h
theorem Pt.own {p : Pt} {d : D} {ρ ρ' : En} (h : p.set d ρ = some ρ') (k : Nat) (es : List D) (e : ρ'[k]? = some (.own es)) : ρ[k]? = some (.own es) ∧ k ∉ p.slots := by
  cases p with
  | nm i =>
    have h' : (if i < ρ.length then some (ρ.set i (.val d)) else none) = some ρ' := by cases d <;> exact h
    by_cases hi : i < ρ.length
    · rw [if_pos hi] at h'
      cases h'
      by_cases hk : i = k
      · subst hk; rw [List.getElem?_set_self hi] at e; cases e
      · rw [List.getElem?_set_ne hk] at e
        exact ⟨e, fun z => hk (List.mem_singleton.mp z).symm⟩
    · rw [if_neg hi] at h'; cases h'
  | tp is =>
    cases d with
    | tup ds => exact setAll_own h k es e
    | _ => cases h
theorem wipe_get : ∀ {vs : List Nat} {σ : L2.St} {k : Nat}, k ∉ vs → (L2.wipe σ vs)[k]? = σ[k]?
  | [], _, _, _ => rfl
  | v :: vs, σ, k, h => by
    show ((L2.wipe σ vs).set v none)[k]? = _
    rw [List.getElem?_set_ne (fun e : v = k => h (by rw [e]; exact List.mem_cons_self)), wipe_get fun z => h (List.mem_cons_of_mem _ z)]
theorem wipeE_own : ∀ {vs : List Nat} {ρ : En} {k : Nat} {es : List D}, (wipeE ρ vs)[k]? = some (.own es) → ρ[k]? = some (.own es) ∧ k ∉ vs
  | [], _, _, _, h => ⟨h, List.not_mem_nil⟩
  | v :: vs, ρ, k, es, h => by
    have h' : ((wipeE ρ vs).set v .no)[k]? = some (.own es) := h
    by_cases hv : v = k
    · subst hv
      by_cases hl : v < (wipeE ρ vs).length
      · rw [List.getElem?_set_self hl] at h'; cases h'
      · rw [List.getElem?_eq_none (by rw [List.length_set]; omega)] at h'; cases h'
    · rw [List.getElem?_set_ne hv] at h'
      obtain ⟨a, b⟩ := wipeE_own h'
      exact ⟨a, fun z => (List.mem_cons.mp z).elim (fun z => hv z.symm) b⟩
theorem NL.set {L : Addr} {p : Pt} {d : D} {ρ ρ' : En} {σ σ' : L2.St} (n : NL L ρ σ) (h : p.set d ρ = some ρ') (hw : ∀ ws, (∀ i ∈ p.slots, i ∈ ws) → L2.wipe σ' ws = L2.wipe σ ws) : NL L ρ' σ' := fun k es e z => by
  obtain ⟨h1, h2⟩ := Pt.own h k es e
  have e2 := congrArg (fun l => l[k]?) (hw p.slots fun _ h => h)
  simp only [wipe_get h2] at e2
  exact n k es h1 (e2 ▸ z)
theorem NL.wipe {L : Addr} {ρ : En} {σ : L2.St} (n : NL L ρ σ) (vs : List Nat) : NL L (wipeE ρ vs) (L2.wipe σ vs) := fun k es e z => by
  obtain ⟨h1, h2⟩ := wipeE_own e
  rw [wipe_get h2] at z
  exact n k es h1 z
theorem er_aside {K : PySem.W.Frag} {H G H0 : Hp} {μ : Mu} {ρ : En} {σ : L2.St} {L : Addr} {o : HO} (er : ER K H G μ H0 ρ σ) (n : NL L ρ σ) : ER K (L2.upd H L o) G μ H0 ρ σ where
  val := er.val
  own := fun i ds q => by
    obtain ⟨a, vs, h1, h2, h3⟩ := er.own i ds q
    exact ⟨a, vs, h1, by rw [upd_ne (fun z : a = L => n i ds q (by rw [h1, z]))]; exact h2, h3⟩
  inj := er.inj
  len := er.len
  old := fun b o h => by
    by_cases hb : b = L
    · subst hb; exact ⟨_, upd_same⟩
    · obtain ⟨o', h'⟩ := er.old b o h; exact ⟨o', by rw [upd_ne hb]; exact h'⟩
theorem lc2_read (hv : ∀ i ∈ pt.slots, i ∈ vs) (hv1 : ∀ i ∈ pt1.slots, i ∈ vs1) : ∀ (σ : L2.St) (H : Hp) (Q : VK), Se X E H0 (rFresh X.K) (eLc2 it pt vs tt it1 pt1 vs1 tt1 te) σ H Q →
    tLc2 (Se X E H0 (rIt X.w X.K) it) (pt.g X.K) (Se X xNo H0 rTrue tt) (Se X xNo H0 (rIt X.w X.K) it1) (pt1.g X.K) (Se X xNo H0 rTrue tt1) (Se X xNo H0 (rRep X.K) te) vs vs1 σ H Q := by
  intro σ H Q ⟨G, μ, st, ρ, w, er, q⟩
  refine ⟨G, μ, st, ρ, w, er, Post.raw q fun ds st1 J H1 G1 μ1 w1 s1 r1 q0 => ?_⟩
  intro L hL
  obtain ⟨hz, hJ⟩ := r1
  have q1 := q0.step s1
  have er1 : ER X.K H1 G1 μ1 H0 (wipeE ρ vs) (L2.wipe σ vs) := (er.step s1).wipe vs
  have n1 : NL L (wipeE ρ vs) (L2.wipe σ vs) := fun k es e z => by
    obtain ⟨a, us, z1, z2, _⟩ := er1.own k es e
    rw [z] at z1; cases z1
    rw [hL] at z2; cases z2
  have g1L : G1 L = none := none_before w1.imm.th hL
  obtain ⟨wL, sL⟩ := w1.lay (o := .lst []) hL
  have nL : ∀ n, μ1 n ≠ some L := fun k e => by
    obtain ⟨b, h1, _, h3⟩ := w1.obj k _ (List.getElem?_eq_getElem (w1.dom k L e))
    rw [e] at h1; cases h1
    obtain ⟨u, hu⟩ := h3.there
    rw [hL] at hu; cases hu
  let In : Nat → Hp → Prop := fun i H => ∃ G μ st acc accD, Wd X.w X.K H G μ st ∧ Stp H1 G1 μ1 H G μ ∧ Lg X L H G μ acc accD ∧
    Post X.w X.K X.mg E (rFresh X.K) H1 G1 μ1 (((noX (lc2A pt.set tt it1 pt1.set vs1 tt1 te (wipeE ρ vs) accD (ds.drop i)))) st) Q
  refine ⟨fun i m H => m = ds.length - i ∧ i ≤ ds.length ∧ In i H, ⟨ds.length, by simp, Nat.zero_le _, G1, μ1, st1, [], [], wL, sL, ⟨upd_same, .nil, g1L, nL⟩, q1⟩, ?_⟩
  rintro i m H ⟨rfl, hi, G, μ, st, acc, accD, w, s, l, q⟩
  obtain ⟨hgo, hstop⟩ := hJ H G μ st w s.g s.m
  by_cases hlt : i < ds.length
  · obtain ⟨go, hy⟩ := hgo i hlt
    refine .inr ⟨go, In (i + 1), fun H' h => ⟨_, by omega, rfl, hlt, h⟩, fun x H2 hx => ?_⟩
    obtain ⟨G2, w2, s2, d, hd, rd⟩ := hy x H2 hx
    rw [List.drop_eq_getElem_cons hlt] at q
    have ed : ds[i] = d := Option.some.inj ((List.getElem?_eq_getElem hlt).symm.trans hd)
    rw [ed] at q
    unfold lc2A at q
    rw [noX_bind, noX_opt] at q
    obtain ⟨ρ2, hset, q⟩ := Post.opt q
    have t2 := s.trans s2
    refine Pt.ok hset w2 rd (er1.step t2) fun σ2 er2 hw => ⟨(hw vs hv).trans (wipe_idem vs σ), ?_⟩
    have n2 : NL L ρ2 σ2 := n1.set hset hw
    rw [noX_bind] at q
    refine ⟨G2, μ, st, ρ2, w2, er2, Post.nbind q fun b st3 b' H3 G3 μ3 w3 s3 r3 q3 => ?_⟩
    cases r3
    have l3 := l.step (s2.trans s3)
    have t3 := t2.trans s3
    cases b with
    | false => exact ⟨G3, μ3, st3, acc, accD, w3, t3, l3, q3⟩
    | true =>
      have q3' : Post X.w X.K X.mg E (rFresh X.K) H1 G1 μ1 (noX ((it1 ρ2).bind fun es => (lcA pt1.set tt1 te (wipeE ρ2 vs1) accD es).bind fun acc' => lc2A pt.set tt it1 pt1.set vs1 tt1 te (wipeE ρ vs) acc' (ds.drop (i + 1))) st3) Q := q3
      rw [noX_bind] at q3'
      have er3 := er2.step s3
      refine ⟨G3, μ3, st3, ρ2, w3, er3, Post.nbind q3' fun es st4 J1 H4 G4 μ4 w4 s4 r4 q4 => ?_⟩
      obtain ⟨hz1, hJ1⟩ := r4
      have er4 : ER X.K H4 G4 μ4 H0 (wipeE ρ2 vs1) (L2.wipe σ2 vs1) := (er3.step s4).wipe vs1
      have t4 := t3.trans s4
      let In1 : Nat → Hp → Prop := fun j H => ∃ G μ st acc accD, Wd X.w X.K H G μ st ∧ Stp H1 G1 μ1 H G μ ∧ Sub G4 G ∧ SubM μ4 μ ∧ ER X.K H G μ H0 (wipeE ρ2 vs1) (L2.wipe σ2 vs1) ∧ Lg X L H G μ acc accD ∧
        Post X.w X.K X.mg E (rFresh X.K) H1 G1 μ1 ((noX ((lcA pt1.set tt1 te (wipeE ρ2 vs1) accD (es.drop j)).bind fun acc' => lc2A pt.set tt it1 pt1.set vs1 tt1 te (wipeE ρ vs) acc' (ds.drop (i + 1)))) st) Q
      refine ⟨fun j m H => m = es.length - j ∧ j ≤ es.length ∧ In1 j H, ⟨es.length, by simp, Nat.zero_le _, G4, μ4, st4, acc, accD, w4, t4, fun _ _ h => h, fun _ _ h => h, er4, l3.step s4, q4⟩, ?_⟩
      rintro j m H ⟨rfl, hj, G, μ, st, acc, accD, w, s, sg, sm, er5, l, q⟩
      obtain ⟨hgo, hstop⟩ := hJ1 H G μ st w sg sm
      by_cases hlt1 : j < es.length
      · obtain ⟨go, hy⟩ := hgo j hlt1
        refine .inr ⟨go, In1 (j + 1), fun H' h => ⟨_, by omega, rfl, hlt1, h⟩, fun x H2 hx => ?_⟩
        obtain ⟨G2, w2, s2, d, hd, rd⟩ := hy x H2 hx
        rw [List.drop_eq_getElem_cons hlt1] at q
        have ed : es[j] = d := Option.some.inj ((List.getElem?_eq_getElem hlt1).symm.trans hd)
        rw [ed] at q
        unfold lcA at q
        rw [M.bind_assoc, noX_bind, noX_opt] at q
        obtain ⟨ρ3, hset, q⟩ := Post.opt q
        have t2 := s.trans s2
        refine Pt.ok hset w2 rd (er5.step s2) fun σ3 er6 hw => ⟨(hw vs1 hv1).trans (wipe_idem vs1 σ2), ?_⟩
        rw [M.bind_assoc, noX_bind] at q
        refine ⟨G2, μ, st, ρ3, w2, er6, Post.nbind q fun b st3 b' H3 G3 μ3 w3 s3 r3 q3 => ?_⟩
        cases r3
        have l3 := l.step (s2.trans s3)
        have er7 := er5.step (s2.trans s3)
        cases b with
        | false => exact ⟨G3, μ3, st3, acc, accD, w3, t2.trans s3, sg.trans (s2.trans s3).g, fun n a e => (s2.trans s3).m n a (sm n a e), er7, l3, q3⟩
        | true =>
          have q3' : Post X.w X.K X.mg E (rFresh X.K) H1 G1 μ1 (noX (((te ρ3).bind fun y => (line (accD.length + 1)).bind fun _ => lcA pt1.set tt1 te (wipeE ρ2 vs1) (accD ++ [y]) (es.drop (j + 1))).bind fun acc' => lc2A pt.set tt it1 pt1.set vs1 tt1 te (wipeE ρ vs) acc' (ds.drop (i + 1))) st3) Q := q3
          rw [M.bind_assoc, noX_bind] at q3'
          refine ⟨G3, μ3, st3, ρ3, w3, er6.step s3, Post.nbind q3' fun dy st4 y H4 G4 μ4 w4 s4 r4 q4 => ?_⟩
          rw [M.bind_assoc, noX_bind, noX_line] at q4
          obtain ⟨hln, q4⟩ := q4.line
          have s24 := (s2.trans s3).trans s4
          have l4 := l.step s24
          refine ⟨acc, l4.at_, by rw [RepL.length l4.rep]; omega, G4, μ4, st4, acc ++ [y], accD ++ [dy], w4.over l4.g l4.n, ((t2.trans s3).trans s4).over hL, sg.trans s24.g, fun n a e => s24.m n a (sm n a e), ?_, l4.push r4, q4⟩
          exact er_aside (er5.step s24) (n2.wipe vs1)
      · have e : j = es.length := by omega
        subst e
        rw [List.drop_length] at q
        refine .inl ⟨hstop _ (Nat.le_refl _), G, μ, st, acc, accD, w, s, l, q⟩
  · have e : i = ds.length := by omega
    subst e
    rw [List.drop_length] at q
    refine .inl ⟨hstop _ (Nat.le_refl _), ?_⟩
    exact q (.ref L) H G μ w s ⟨L, acc, rfl, l.at_, l.rep, l.g, l.n, hL⟩
variable {elt tg iter tg1 iter1 : Expr} {ifs ifs1 : List Expr} {scope : Scope} {own : List (Str × Nat)} {pos : Pos}
theorem jf_lc2 (hc : X.calm = true) (hN : X.N.Nodup) (hi : JI X E H0 tg it iter) (ok : BlkOk X.N X.env.scope scope own) (hv : ∀ i ∈ pt.slots, i ∈ own.map (·.2)) (hv1 : ∀ i ∈ pt1.slots, i ∈ vs1) (hv2 : ∀ i ∈ vs1, i ∈ own.map (·.2))
    (hg : ∀ (s : Shared) (H : Hp) (C : Addr) (cl : List (Str × Addr)) (fp : List Addr), PG (X.blk s H scope (compEnvC scope cl C X.env) fp) tg (pt.g X.K))
    (ht : ∀ (s : Shared) (H : Hp) (C : Addr) (cl : List (Str × Addr)) (fp : List Addr), JTs (X.blk s H scope (compEnvC scope cl C X.env) fp) xNo H0 tt ifs)
    (hi1 : ∀ (s : Shared) (H : Hp) (C : Addr) (cl : List (Str × Addr)) (fp : List Addr), JI (X.blk s H scope (compEnvC scope cl C X.env) fp) xNo H0 tg1 it1 iter1)
    (hg1 : ∀ (s : Shared) (H : Hp) (C : Addr) (cl : List (Str × Addr)) (fp : List Addr), PG (X.blk s H scope (compEnvC scope cl C X.env) fp) tg1 (pt1.g X.K))
    (ht1 : ∀ (s : Shared) (H : Hp) (C : Addr) (cl : List (Str × Addr)) (fp : List Addr), JTs (X.blk s H scope (compEnvC scope cl C X.env) fp) xNo H0 tt1 ifs1)
    (he : ∀ (s : Shared) (H : Hp) (C : Addr) (cl : List (Str × Addr)) (fp : List Addr), JE (X.blk s H scope (compEnvC scope cl C X.env) fp) xNo H0 te elt) (hs : ∀ x, foldedSetIterable iter X.env x = pure x := by intro _; rfl) (hs1 : ∀ env x, foldedSetIterable iter1 env x = pure x := by intro _ _; rfl) :
    JF X E H0 (eLc2 it pt (own.map (·.2)) tt it1 pt1 vs1 tt1 te) (.ListComp elt [⟨tg, iter, ifs, 0⟩, ⟨tg1, iter1, ifs1, 0⟩] scope pos) :=
  PE.imp (pe_lc2 (tt := Se X xNo H0 rTrue tt) (tt1 := Se X xNo H0 rTrue tt1) (wi1 := Se X xNo H0 (rIt X.w X.K) it1) (te := Se X xNo H0 (rRep X.K) te) hc hN hi ok hv2 hg ht hi1 hg1 ht1 he hs hs1) (lc2_read hv hv1)
section
variable {Φ : Ent} {i : Nat} {y : Str} {py spos : Pos} {ρ : En} {st : Sto}
theorem js_setLc2 (hc : X.calm = true) (hN : X.N.Nodup) (hy : X.N[i]? = some y) (hyl : X.env.scope.names.lookup y = some .local) (hsw : swapsWith (.ListComp elt [⟨tg, iter, ifs, 0⟩, ⟨tg1, iter1, ifs1, 0⟩] scope pos) (some (.Name y py)) spos.line X.env = pure true)
    (hi : JI X E Φ.H tg it iter) (ok : BlkOk X.N X.env.scope scope own) (hv : ∀ i ∈ pt.slots, i ∈ own.map (·.2)) (hv1 : ∀ i ∈ pt1.slots, i ∈ vs1) (hv2 : ∀ i ∈ vs1, i ∈ own.map (·.2))
    (hg : ∀ (s : Shared) (H : Hp) (C : Addr) (cl : List (Str × Addr)) (fp : List Addr), PG (X.blk s H scope (compEnvC scope cl C X.env) fp) tg (pt.g X.K))
    (ht : ∀ (s : Shared) (H : Hp) (C : Addr) (cl : List (Str × Addr)) (fp : List Addr), JTs (X.blk s H scope (compEnvC scope cl C X.env) fp) xNo Φ.H tt ifs)
    (hi1 : ∀ (s : Shared) (H : Hp) (C : Addr) (cl : List (Str × Addr)) (fp : List Addr), JI (X.blk s H scope (compEnvC scope cl C X.env) fp) xNo Φ.H tg1 it1 iter1)
    (hg1 : ∀ (s : Shared) (H : Hp) (C : Addr) (cl : List (Str × Addr)) (fp : List Addr), PG (X.blk s H scope (compEnvC scope cl C X.env) fp) tg1 (pt1.g X.K))
    (ht1 : ∀ (s : Shared) (H : Hp) (C : Addr) (cl : List (Str × Addr)) (fp : List Addr), JTs (X.blk s H scope (compEnvC scope cl C X.env) fp) xNo Φ.H tt1 ifs1)
    (he : ∀ (s : Shared) (H : Hp) (C : Addr) (cl : List (Str × Addr)) (fp : List Addr), JE (X.blk s H scope (compEnvC scope cl C X.env) fp) xNo Φ.H te elt) (hs : ∀ x, foldedSetIterable iter X.env x = pure x := by intro _; rfl) (hs1 : ∀ env x, foldedSetIterable iter1 env x = pure x := by intro _ _; rfl) :
    JS X E Φ (sSet i (eL (eLc2 it pt (own.map (·.2)) tt it1 pt1 vs1 tt1 te))) (.Assign [.Name y py] (.ListComp elt [⟨tg, iter, ifs, 0⟩, ⟨tg1, iter1, ifs1, 0⟩] scope pos) spos) := by
  refine PS.imp (ps_setLc2 (tt := Se X xNo Φ.H rTrue tt) (tt1 := Se X xNo Φ.H rTrue tt1) (wi1 := Se X xNo Φ.H (rIt X.w X.K) it1) (te := Se X xNo Φ.H (rRep X.K) te) hc hN hy hyl hsw hi ok hv2 hg ht hi1 hg1 ht1 he hs hs1) fun Dn σ H ⟨G, μ, st, ρ, w, er, s, p⟩ => ?_
  have p' : PostS X E Φ Dn (((eLc2 it pt (own.map (·.2)) tt it1 pt1 vs1 tt1 te ρ).bind fun ds => put i (.val (.lst ds)) ρ) st) := by
    have e : sSet i (eL (eLc2 it pt (own.map (·.2)) tt it1 pt1 vs1 tt1 te)) ρ = (eLc2 it pt (own.map (·.2)) tt it1 pt1 vs1 tt1 te ρ).bind fun ds => put i (.val (.lst ds)) ρ := M.bind_assoc _ _ _
    rw [← e]; exact p
  refine lc2_read hv hv1 _ _ _ ⟨G, μ, st, ρ, w, er, p'.bind s fun ds st' v H' G' μ' w' s' t' r q => ?_⟩
  obtain ⟨a, vs, rfl, h1, h2, h3, h4, h5⟩ := r
  exact put_val q (w'.freeze h1 h3 h4) (er.step (s'.freeze h3 h5)) (t'.freeze h3 (none_before s.th h5)) (.lst upd_same (h2.mono (subUpd h3) fun _ _ h => h))
end
/-- a star in a display -/
def aStar (f : En → M D) (g : En → M (List D)) : En → M (List D) := fun ρ => (f ρ).bind fun d => (opt (seqD d)).bind fun xs => (g ρ).bind fun ys => M.pure (xs ++ ys)
theorem ja_star {f : En → M D} {g : En → M (List D)} {e : Expr} {es : List Expr} {p : Pos} (he : JE X E H0 f e) (hr : JA X E H0 g es) (hs : starEach (.Starred e p :: es) X.env = (true, eval e X.env) :: starEach es X.env := by rfl) : JA X E H0 (aStar f g) (.Starred e p :: es) :=
  PA.imp (StX.pa_star he hr hs) fun σ H Q ⟨G, μ, st, ρ, w, er, q⟩ => ⟨G, μ, st, ρ, w, er, Post.bind q fun d st1 v H1 G1 μ1 w1 s1 r1 q1 => by
    obtain ⟨ds, hd, q1⟩ := Post.opt q1
    obtain ⟨a, vs, rfl, hq, rr⟩ := BRep.seq w1.imm (.inl r1) hd
    exact ⟨a, vs, rfl, hq.symm, G1, μ1, st1, ρ, w1, er.step s1, Post.bind q1 fun ys st2 us H2 G2 μ2 w2 s2 r2 q2 => q2 _ _ _ _ w2 .refl ((rr.mono s2.g s2.m).append r2)⟩⟩
end
end PL

set_option linter.all false
set_option maxRecDepth 100000
set_option maxHeartbeats 6000000
/-! PL20: sorted(set(xs)) of a list of texts. -/
namespace PL
section
open PySem PySem.Spec L2
variable {wW : World}
/-- the text of a set's entry -/
def txtOf (e : Int × Value) : Str := match e.2 with
  | .str k _ => k
  | _ => Str.empty
def GoodT (P : Program) (w : World) (e : Int × Value) : Prop := ∃ k tk, e.2 = Value.str k tk ∧ e.1 = (PySem.strKind P w).hash k
/-- at a: a set of texts, S its members, n their number -/
def SetT (P : Program) (w : World) (h : Heap) (a : Addr) (S : Str → Bool) (n : Nat) : Prop := ∃ o es ep t, h.get? a = some o ∧ o.ExactSet ∧ o.data = .set es ep t ∧ (∀ e ∈ es.toList, GoodT P w e) ∧
  (es.toList.map txtOf).Nodup ∧ (∀ k, S k = true ↔ k ∈ es.toList.map txtOf) ∧ es.size < scanBound ∧ t.fits es.size = true ∧ es.size = n ∧ Ris t.place.toList ∧ (w.params.followText "set-order" = true ∨ t.led = true)
section
variable {P : Program} {w : World} {h h' : Heap} {a : Addr} {S : Str → Bool} {n : Nat}
theorem SetT.keep (R : SetT P w h a S n) (k : ∀ o, h.get? a = some o → h'.get? a = some o) : SetT P w h' a S n := let ⟨o, es, ep, t, ho, r⟩ := R; ⟨o, es, ep, t, k o ho, r⟩
theorem SetT.same {S' : Str → Bool} (R : SetT P w h a S n) (e : ∀ k, S' k = S k) : SetT P w h a S' n := by rw [show S' = S from funext e]; exact R
theorem goodT_el {l : List (Int × Value)} (g : ∀ e ∈ l, GoodT P w e) : ElemsOf (PySem.strKind P w) l := fun e he => by
  obtain ⟨k, tk, h1, h2⟩ := g e he
  refine ⟨⟨k, by rw [h1]; exact strKind_is P w k tk, h2⟩, ?_⟩
  rw [h1]; rfl
theorem goodT_is {e : Int × Value} (g : GoodT P w e) (k : Str) : (PySem.strKind P w).is k e.2 = true ↔ txtOf e = k := by
  obtain ⟨k0, tk, h1, _⟩ := g
  unfold txtOf
  rw [h1]
  constructor
  · intro z
    exact (PySem.strKind P w).inj _ _ _ (strKind_is P w k0 tk) z
  · rintro rfl
    exact strKind_is P w _ tk
theorem goodT_mem {l : List (Int × Value)} (g : ∀ e ∈ l, GoodT P w e) (k : Str) : k ∈ l.map txtOf ↔ ∃ e ∈ l, (PySem.strKind P w).is k e.2 = true :=
  ⟨fun z => let ⟨e, he, q⟩ := List.mem_map.mp z; ⟨e, he, (goodT_is (g e he) k).2 q⟩, fun ⟨e, he, q⟩ => List.mem_map.mpr ⟨e, he, (goodT_is (g e he) k).1 q⟩⟩
end
section
variable {P : Program} {w : World} {A : Around} {E : Value → Shared → Prop} {s : Shared} {a : Addr} {S : Str → Bool} {n : Nat}
theorem setT_tail {g : Bool → Sem Unit} (hg : ∀ (b : Bool) (s₁ : Shared) (Q' : Unit → Shared → Prop), Q' () s₁ → wpAny (model P w) A (g b) Q' E s₁) {o : Obj} {es : Array (Int × Value)} {ep : Nat} {t : SetTable} (ho : s.heap.get? a = some o) (hex : o.ExactSet) (hd : o.data = .set es ep t)
    {es1 : Array (Int × Value)} {t2 : SetTable} {S' : Str → Bool} (g1 : ∀ e ∈ es1.toList, GoodT P w e) (nd1 : (es1.toList.map txtOf).Nodup) (m1 : ∀ k, S' k = true ↔ k ∈ es1.toList.map txtOf) (hb1 : es1.size < scanBound) (hf2 : t2.fits es1.size = true) (hr : Ris t2.place.toList)
    (hl : w.params.followText "set-order" = true ∨ t2.led = true) {wasDummy : Bool} {R : Option Bool → Shared → Prop} (hR : ∀ h', Heap.SameBut a s.heap h' → SetT P w h' a S' es1.size → R (some true) { s with heap := h' }) :
    wpAny (model P w) A (storeSet a es1 t2 >>= fun _ => if (!wasDummy && t2.tooFull) = true then (g (relayAll t2 es1 (SetTable.grown es1.size)).2.2 >>= fun _ => storeSet a (relayAll t2 es1 (SetTable.grown es1.size)).1 (relayAll t2 es1 (SetTable.grown es1.size)).2.1 >>= fun _ => pure (some true)) else pure (some true)) R E s := by
  have o1 := store_at (es' := es1) (t' := t2) ho hd
  have sb1 := Heap.SameBut.update s.heap a (Obj.putSet es1 t2)
  refine wpAny_bind (wpAny_storeSet_of ho hd ?_ (fits_of_scanBound hb1))
  by_cases hc : (!wasDummy && t2.tooFull) = true
  · rw [if_pos hc]
    have pm := relayAll_perm t2 es1 (SetTable.grown es1.size)
    have f3 := relayAll_fits t2 es1 (SetTable.grown es1.size)
    have r3 := relayAll_ris t2 es1 (SetTable.grown es1.size)
    have l3 := relayAll_led t2 es1 (SetTable.grown es1.size)
    generalize relayAll t2 es1 (SetTable.grown es1.size) = Z at pm f3 r3 l3 ⊢
    obtain ⟨es2, t3, gave⟩ := Z
    dsimp only at pm f3 r3 l3 ⊢
    have sz : es2.size = es1.size := by rw [← Array.length_toList, pm.length_eq, Array.length_toList]
    have b2 : es2.size < scanBound := by rw [sz]; exact hb1
    refine wpAny_bind (hg _ _ _ (wpAny_bind (wpAny_storeSet_of o1 rfl (wpAny_pure (hR _ (sb1.trans (Heap.SameBut.update _ a _)) ?_)) (fits_of_scanBound b2))))
    exact ⟨_, es2, _, t3, store_at (es' := es2) (t' := t3) o1 rfl, hex, rfl, fun e he => g1 e (pm.mem_iff.mp he), (pm.map txtOf).nodup_iff.mpr nd1, fun k => (m1 k).trans (pm.map txtOf).mem_iff.symm, b2, f3, sz, r3, hl.imp id fun z => l3.trans z⟩
  · rw [if_neg hc]
    exact wpAny_pure (hR _ sb1 ⟨_, es1, _, t2, o1, hex, rfl, g1, nd1, m1, hb1, hf2, rfl, hr, hl⟩)
theorem setT_add {k : Str} {tk : Tok} {Q : Bool → Shared → Prop} (R : SetT P w s.heap a S n) (room : n + 1 < scanBound)
    (hQ : ∀ h', Heap.SameBut a s.heap h' → SetT P w h' a (fun j => S j || decide (j = k)) (if S k = true then n else n + 1) → Q (!S k) { s with heap := h' }) :
    wpAny (model P w) A (setAddHashed a (.str k tk) ((PySem.strKind P w).hash k)) Q E s := by
  obtain ⟨o, es, ep, t, ho, hex, hd, g, nd, hm, hb, hf, hn, hr, hl⟩ := R
  have hkey : (PySem.strKind P w).is k (.str k tk) = true := strKind_is P w k tk
  have hel := goodT_el g
  have hsc : (Value.str k tk).scannable = true := rfl
  unfold setAddHashed setAddHashedIn
  refine wpAny_holding (wpAny_bind (wpAny_setState_of ho hd hf ?_))
  dsimp only
  rw [byScan_of hsc hb hel]
  simp only [↓reduceIte]
  unfold setAddByScan
  refine wpAny_bind (wpAny_bind (wpAny_rule (wpAny_bind (wpAny_setScan_of hkey ho hd hf hel ?_))))
  cases hfi : List.findIdx? (fun e => (PySem.strKind P w).is k e.2) es.toList with
  | none =>
    dsimp only
    have hnk : k ∉ es.toList.map txtOf := fun z => by
      obtain ⟨e, he, q⟩ := (goodT_mem g k).1 z
      have c := List.findIdx?_eq_none_iff.mp hfi e he
      rw [q] at c; cases c
    have hSk : S k = false := by
      cases q : S k with
      | false => rfl
      | true => exact absurd ((hm k).1 q) hnk
    have hgw : ∀ (b : Bool) {s₁ : Shared} {Q' : Unit → Shared → Prop}, Q' () s₁ → wpAny (model P w) A (match b with | true => rule "set.scan.the-table-gave-way" | false => pure ()) Q' E s₁ := fun b s₁ Q' q => by
      cases b with
      | true => exact wpAny_rule q
      | false => exact wpAny_pure q
    have pm := layNew_perm t es ((PySem.strKind P w).hash k) (.str k tk)
    have f1 := layNew_fits t es ((PySem.strKind P w).hash k) (.str k tk)
    have r1 := layNew_ris t es ((PySem.strKind P w).hash k) (.str k tk) hr
    have l1 := layNew_led t es ((PySem.strKind P w).hash k) (.str k tk)
    generalize layNew t es ((PySem.strKind P w).hash k) (.str k tk) = Z at pm f1 r1 l1 ⊢
    obtain ⟨es1, t1, wasDummy, gave⟩ := Z
    dsimp only at pm f1 r1 l1 ⊢
    rw [Array.toList_push] at pm
    have pc := pm.trans (List.perm_append_singleton _ _)
    have pk : (es1.toList.map txtOf).Perm (k :: es.toList.map txtOf) := pc.map txtOf
    have g1 : ∀ e ∈ es1.toList, GoodT P w e := fun e he => by
      rcases List.mem_cons.mp (pc.mem_iff.mp he) with rfl | z
      · exact ⟨k, tk, rfl, rfl⟩
      · exact g e z
    have n1 := pk.nodup_iff.mpr (List.nodup_cons.mpr ⟨hnk, nd⟩)
    have m1 : ∀ i, (S i || decide (i = k)) = true ↔ i ∈ es1.toList.map txtOf := fun i => by
      rw [Bool.or_eq_true, decide_eq_true_eq, hm i, pk.mem_iff, List.mem_cons, or_comm]
    have sz : es1.size = n + 1 := by rw [← Array.length_toList, pc.length_eq, List.length_cons, Array.length_toList, hn]
    have b1 : es1.size < scanBound := sz ▸ room
    have hled : w.params.followText "set-order" = true ∨ t1.led = true := hl.imp id fun z => l1.trans z
    have fin : ∀ h', Heap.SameBut a s.heap h' → SetT P w h' a (fun j => S j || decide (j = k)) es1.size → Q true { s with heap := h' } := fun h' sb r => by
      have q := hQ h' sb
      rw [hSk] at q
      exact q (sz ▸ r)
    refine wpAny_bind (hgw _ ?_)
    split
    · refine wpAny_bind ?_
      rw [hashByValue_scannable 8 hsc]
      refine wpAny_pure (setT_tail (fun b s₁ Q' q => hgw b q) ho hex hd g1 n1 m1 b1 ?_ ?_ ?_ fun h' sb r => ?_)
      · first | exact f1 | exact SetTable.fits_plain_off f1 | (split <;> first | exact f1 | exact SetTable.fits_plain_off f1)
      · first | exact r1 | (split <;> exact r1)
      · first | exact hled | (split <;> exact hled)
      · dsimp only; exact wpAny_pure (fin h' sb r)
    · refine wpAny_bind (wpAny_pure ?_)
      simp only [↓reduceIte]
      refine setT_tail (fun b s₁ Q' q => hgw b q) ho hex hd g1 n1 m1 b1 f1 r1 hled fun h' sb r => ?_
      dsimp only; exact wpAny_pure (fin h' sb r)
  | some j =>
    dsimp only
    obtain ⟨hj, pj, _⟩ := List.findIdx?_eq_some_iff_getElem.mp hfi
    have hSk : S k = true := (hm k).2 ((goodT_mem g k).2 ⟨es.toList[j], List.getElem_mem hj, pj⟩)
    have q := hQ s.heap (Heap.SameBut.refl a s.heap) ⟨o, es, ep, t, ho, hex, hd, g, nd, fun i => by
      rw [Bool.or_eq_true, decide_eq_true_eq, ← hm i]
      exact ⟨fun z => z.elim id fun e => e ▸ hSk, .inl⟩, hb, hf, by rw [if_pos hSk]; exact hn, hr, hl⟩
    rw [hSk] at q
    exact wpAny_pure (wpAny_pure q)
end
end
end PL

set_option linter.all false
set_option maxRecDepth 100000
set_option maxHeartbeats 6000000
/-! PL21: set(xs) of a list of texts; sorted of it. -/
namespace PL
section
open PySem PySem.Spec PyProof.Rows L2
variable {wW : World}
theorem txts_at : ∀ {us : List Value} {xs : List Str}, StrsAre us xs → ∀ (i : Nat) (v : Value), us[i]? = some v → ∃ t, v = .str (xs.getD i Str.empty) t
  | _, _, .nil, i, v, h => by simp at h
  | _, _, .cons y t r, 0, v, h => by simp at h; exact ⟨t, by rw [← h]; rfl⟩
  | _, _, .cons y t r, i + 1, v, h => by
    obtain ⟨u, e⟩ := txts_at r i v (by simpa using h)
    exact ⟨u, by rw [e]; rfl⟩
theorem setT_new {P : Program} {w : World} {h : Heap} {a : Addr} {ks : List Str} (ho : h.get? a = some { cls := .type "set", dict := none, data := .set #[] 0 (.fresh 0 0 (!w.params.followText "set-order")) }) : SetT P w h a (fun j => decide (j ∈ ks.take 0)) 0 :=
  ⟨_, #[], 0, _, ho, ⟨rfl, rfl, rfl⟩, rfl, (fun e he => absurd he List.not_mem_nil), List.nodup_nil, (fun k => by simp), by decide, by rfl, rfl, List.Pairwise.nil, by
    show _ ∨ (!w.params.followText "set-order") = true
    cases w.params.followText "set-order" <;> simp⟩
section
variable {P : Program} {w : World} {A : Around} {E : Value → Shared → Prop} {s : Shared}
theorem set_update_txts {I : Addr} {fp wr : List Addr} {G : Array GenState → Array GenState → Prop} {n : Nat} {Pv : Nat → Value → Prop} {St : Nat → Shared → Prop} {R : Result → Shared → Prop} (W : WalksS P w A.in1 I fp wr G n Pv St) (Z : Addr) (hZ : Z ∉ fp) (xs : List Str) (hn : n = xs.length) (hb : xs.length + 1 < scanBound)
    (hval : ∀ i v, Pv i v → ∃ k t, xs[i]? = some k ∧ v = .str k t) : ∀ (m i : Nat) (s : Shared), n - i = m → i ≤ n → St i s → (∃ c, c ≤ i ∧ SetT P w s.heap Z (fun j => decide (j ∈ xs.take i)) c) →
      (∀ s' c, Moved (Z :: wr) G s s' → c ≤ n → SetT P w s'.heap Z (fun j => decide (j ∈ xs)) c → R (.ok (.ret .none)) s') → codeAny (model P w) A (.builtin "set.update.loop" ⟨[.ref Z, .ref I], []⟩) R s := by
  have hw : Z ∉ wr := fun h => hZ (W.sub _ h)
  have sub : ∀ b ∈ wr, b ∈ Z :: wr := fun b hb => List.mem_cons_of_mem _ hb
  intro m
  induction m with
  | zero =>
    intro i s hm hi hst ⟨c, hc, hS⟩ hR
    obtain rfl : i = n := by omega
    refine codeAny_builtin F.entry_set_update_loop ?_
    rw [Around.under_plainId F.plain_set_update_loop _]
    show wpAny _ A.in1 (pyNext (.ref I) >>= _) _ _ s
    refine wpAny_bind (W.done s _ _ hst fun s' hmv => ?_)
    show wpAny _ A.in1 (ret Value.none) _ _ s'
    rw [List.take_of_length_le (show xs.length ≤ i by omega)] at hS
    exact wpAny_pure (hR s' c (hmv.mono sub) hc (hS.keep fun o e => hmv.heap Z o hw e))
  | succ m ih =>
    intro i s hm hi hst ⟨c, hc, hS⟩ hR
    have lt : i < n := by omega
    refine codeAny_builtin F.entry_set_update_loop ?_
    rw [Around.under_plainId F.plain_set_update_loop _]
    show wpAny _ A.in1 (pyNext (.ref I) >>= _) _ _ s
    refine wpAny_bind (W.item i s _ _ lt hst fun v s' hP hst' hmv => ?_)
    obtain ⟨z, t, hz, rfl⟩ := hval i v hP
    have hS' : SetT P w s'.heap Z (fun j => decide (j ∈ xs.take i)) c := hS.keep fun o e => hmv.heap Z o hw e
    show wpAny _ A.in1 (holding [Value.str z t] (setAdd Z (.str z t)) >>= _) _ _ s'
    refine wpAny_bind (wpAny_holding ?_)
    unfold setAdd
    refine wpAny_holding (wpAny_bind ((PySem.strKind P w).pyHash (k := z) (strKind_is _ _ _ _) ?_))
    refine setT_add (s := { s' with toks := s'.toks + 1 }) hS' (by omega) fun h' hsb hS2 => ?_
    have hS3 : SetT P w h' Z (fun j => decide (j ∈ xs.take (i + 1))) (if decide (z ∈ xs.take i) = true then c else c + 1) := hS2.same fun j => by rw [List.take_add_one, hz]; simp [List.mem_append]
    have hc3 : (if decide (z ∈ xs.take i) = true then c else c + 1) ≤ i + 1 := by split <;> omega
    refine wpAny_pure ⟨plainId_quiet F.plain_set_update_loop _, ih (i + 1) _ (by omega) lt (W.frame _ s' _ _ hst' (Nat.le_succ _) fun b hb o e => ?_) ⟨_, hc3, hS3⟩ fun s'' c2 m2 hc2 hS4 => ?_⟩
    · rw [hsb.2 b (by rintro rfl; exact hZ hb)]; exact e
    · refine hR s'' c2 (Moved.trans W.gtrans ((hmv.mono sub).then_heap (Nat.le_succ _) fun b o hb e => ?_) m2) hc2 hS4
      rw [hsb.2 b (by rintro rfl; exact hb List.mem_cons_self)]; exact e
end
section
variable {prog : Program} {w : World} {A : Around} {E : Value → Shared → Prop} {s : Shared}
theorem set_of_txts {l : Addr} {zs : Array Value} (ks : List Str) {Q : Value → Shared → Prop} (hA : A.handled = none) (hL : s.heap.IsList l zs) (hz : StrsAre zs.toList ks) (bd : ks.length + 1 < scanBound)
    (fin : ∀ (hp : Heap) (tk c0 : Nat), SetT prog w hp s.heap.objs.size (fun j => decide (j ∈ ks)) c0 → c0 ≤ ks.length → (∀ x1 o, s.heap.get? x1 = some o → hp.get? x1 = some o) → Q (.ref s.heap.objs.size) { s with heap := hp, toks := tk }) :
    wpAny (model prog w) A (call (.type "set") [.ref l]) Q E s := by
  have sz0 : zs.size = ks.length := by
    have q := StrsAre.length hz
    rw [Array.length_toList] at q
    exact q
  obtain ⟨c0, tl, m0⟩ := F.called_set.mro
  have m1 := F.called_set.made
  have m2 := F.called_set.sub
  refine wpAny_call (codeAny_of_tree ?_)
  show wpAny _ _ (callAny (.type "set") _) _ _ _
  refine wpAny_pure ⟨Code.quiet_builtin _ (by decide +kernel), codeAny_builtin F.entry_type_call ?_⟩
  rw [Around.under_plain (weight_type_call_type "set" [.ref l] []) rfl]
  have m3 := F.called_set.notType
  have m4 := F.called_set.canCreate
  have m5 := F.typeCall_set_1 (.ref l)
  repeat (any_goals (first | assumption | wp_step))

  refine codeAny_mono (code_set_led1 (.ref l) (E := E) (Q₁ := fun ob s1 => ob = .ref s.heap.objs.size ∧ s1 = { s with heap := s.heap.push { cls := .type "set", dict := none, data := .set #[] 0 (.fresh 0 0 (!w.params.followText "set-order")) } }) ⟨rfl, rfl⟩) fun r s1 hr => ?_
  cases r with
  | error e => exact hr
  | ok fl =>
    cases fl with
    | ret ob =>
      obtain ⟨rfl, rfl⟩ := hr
      have gS : (s.heap.push { cls := .type "set", dict := none, data := .set #[] 0 (.fresh 0 0 (!w.params.followText "set-order")) }).get? s.heap.objs.size = some { cls := .type "set", dict := none, data := .set #[] 0 (.fresh 0 0 (!w.params.followText "set-order")) } := Heap.get?_push_size _ rfl
      have tS : Shared.TypeIs { s with heap := s.heap.push { cls := .type "set", dict := none, data := .set #[] 0 (.fresh 0 0 (!w.params.followText "set-order")) } } (.ref s.heap.objs.size) "set" := ⟨_, gS, rfl⟩
      have m6 := F.called_set.init.lookup
      have m7 := F.called_set.init.bind (.ref s.heap.objs.size)
      repeat (any_goals (first | assumption | wp_step))

      refine codeAny_mono (codeAny_call_builtin (R := wants (fun r s2 => r = .none ∧ ∃ hp tk c0, s2 = { s with heap := hp, toks := tk } ∧ SetT prog w hp s.heap.objs.size (fun j => decide (j ∈ ks)) c0 ∧ c0 ≤ ks.length ∧
          (∀ x1 o, s.heap.get? x1 = some o → hp.get? x1 = some o)) E) F.called_set.init.plain F.entry_set_init (check_set_init_1 tS ?_)) fun r2 s2 hr2 => ?_
      · obtain ⟨o1, go, gc, n1, gd⟩ := hL
        obtain ⟨oc, od, oa, os1⟩ := o1
        simp only at gc gd
        subst gc; subst gd
        have go2 : (s.heap.push { cls := .type "set", dict := none, data := .set #[] 0 (.fresh 0 0 (!w.params.followText "set-order")) }).get? l = some { cls := .type "list", dict := od, data := .seq zs n1, slots := os1 } := Heap.get?_push_of_some _ go
        have m8 := F.sub_list_set
        have m9 := F.sub_list_frozenset
        have mA : (Value.type "list" == Value.type "dict") = false := by decide
        have gl1 : (s.heap.push { cls := .type "set", dict := none, data := .set #[] 0 (.fresh 0 0 (!w.params.followText "set-order")) }).IsList l zs := ⟨_, go2, rfl, n1, rfl⟩
        unfold Builtin.«set.__init__» noKeywords Builtin.Frozenset.updateFrom
        generalize gP : pyIter = PI
        wp_walk
        subst gP

        refine wpAny_pyIter_list gl1 ?_
        refine wpAny_bind (wpAny_runValue ?_)
        have lS : l < s.heap.objs.size := Heap.lt_size go
        have mB : A.in1.in1.in1.handled = none := by simp [hA]
        have mC : (s.heap.push { cls := .type "set", dict := none, data := .set #[] 0 (.fresh 0 0 (!w.params.followText "set-order")) }).objs.size = s.heap.objs.size + 1 := Heap.size_push ..
        have mD : l ≠ (s.heap.push { cls := .type "set", dict := none, data := .set #[] 0 (.fresh 0 0 (!w.params.followText "set-order")) }).objs.size := by
          rw [Heap.size_push]; exact Nat.ne_of_lt (Nat.lt_succ_of_lt lS)
        have mE : s.heap.objs.size ∉ [(s.heap.push { cls := .type "set", dict := none, data := .set #[] 0 (.fresh 0 0 (!w.params.followText "set-order")) }).objs.size, l] := by
          rw [Heap.size_push]; simp only [List.mem_cons, List.mem_singleton, List.not_mem_nil, or_false, not_or]
          exact ⟨Nat.ne_of_lt (Nat.lt_succ_self _), Nat.ne_of_gt lS⟩
        have gv : ∀ (i : Nat) (v : Value), zs[i]? = some v → ∃ k t, ks[i]? = some k ∧ v = .str k t := fun i v hv => by
          have hi : i < ks.length := by rw [← sz0]; exact (Array.getElem?_eq_some_iff.mp hv).1
          obtain ⟨t, e⟩ := txts_at hz i v (by rw [Array.getElem?_toList]; exact hv)
          refine ⟨ks[i], t, List.getElem?_eq_getElem hi, ?_⟩
          rw [e, List.getD_eq_getElem?_getD, List.getElem?_eq_getElem hi] <;> rfl
        refine set_update_txts ((Walks.list mB _ l mD zs).toS) s.heap.objs.size
          mE ks sz0 bd gv (zs.size - 0) 0 _ (by omega) (Nat.zero_le _)
          ⟨⟨_, Heap.get?_push_size _ rfl, rfl, rfl⟩, (gl1.push _)⟩ ?hS0 ?hR
        case hS0 =>
          have gg : ((s.heap.push { cls := .type "set", dict := none, data := .set #[] 0 (.fresh 0 0 (!w.params.followText "set-order")) }).push { cls := .type "list_iterator", data := .fields #[.ref l, .int 0 0] }).get? s.heap.objs.size
              = some { cls := .type "set", dict := none, data := .set #[] 0 (.fresh 0 0 (!w.params.followText "set-order")) } := Heap.get?_push_of_some _ gS
          exact ⟨0, Nat.le_refl 0, setT_new gg⟩
        case hR =>
          intro s3 c3 mv lc2 gS2
          obtain ⟨hp, g3, d3, t3, o3⟩ := s3
          have e1 : g3 = s.gens := mv.gens
          have e2 : d3 = s.drawn := mv.drawn
          have e3 : o3 = s.os := mv.os
          subst e1; subst e2; subst e3
          show wpAny _ _ _ _ _ _
          refine wpAny_pure ?_
          show wpAny _ _ (ret Value.none) _ _ _
          rw [sz0] at lc2
          refine wpAny_pure ⟨rfl, hp, t3, c3, rfl, gS2, lc2, fun x1 o e => ?_⟩
          have b0 : x1 < s.heap.objs.size := Heap.lt_size e
          have b1 : x1 ≠ s.heap.objs.size := Nat.ne_of_lt b0
          have b2 : x1 ≠ (s.heap.push { cls := .type "set", dict := none, data := .set #[] 0 (.fresh 0 0 (!w.params.followText "set-order")) }).objs.size := by
            rw [Heap.size_push]; exact Nat.ne_of_lt (Nat.lt_succ_of_lt b0)
          exact mv.heap x1 o (by simp only [List.mem_cons, List.mem_singleton, List.not_mem_nil, or_false, not_or]; exact ⟨b1, b2⟩) (Heap.get?_push_of_some _ (Heap.get?_push_of_some _ e))

      · cases r2 with
        | error e => exact hr2
        | ok fl2 =>
          cases fl2 with
          | ret r =>
            obtain ⟨rfl, hp, tk, c3, rfl, gS2, lc2, kp2⟩ := hr2
            repeat (any_goals (first | assumption | wp_step))
            exact fin _ _ _ gS2 lc2 kp2
          | _ => exact hr2.elim
    | _ => exact hr.elim

end
section
variable {P : Program} {w : World} {A : Around} {E : Value → Shared → Prop} {s : Shared} {a : Addr}
theorem txts_of : ∀ (l : List Value), (∀ v ∈ l, ∃ k tk, v = Value.str k tk) → StrsAre l (l.map PyProof.Rows.strOf)
  | [], _ => .nil
  | v :: l, h => by
    obtain ⟨k, tk, rfl⟩ := h v List.mem_cons_self
    exact .cons k tk (txts_of l fun u hu => h u (List.mem_cons_of_mem _ hu))
theorem sorted_setT {S : Str → Bool} {n : Nat} {Q : Value → Shared → Prop} (R : SetT P w s.heap a S n) (hh : A.handled = none) (h64 : n < 64)
    (hQ : ∀ s' p (out : Array Value) (c : Nat) (ns : List Str), (∀ b o, s.heap.get? b = some o → s'.heap.get? b = some o) → s'.gens = s.gens → s'.os = s.os → s.heap.objs.size ≤ p → s'.heap.get? p = some (seqObj "list" out c) → StrsAre out.toList ns → sortedS ns = true → ns.Nodup → (∀ k, k ∈ ns ↔ S k = true) → ns.length = n → Q (.ref p) s') :
    wpAny (model P w) A (call (.builtin "sorted") [.ref a]) Q E s := by
  obtain ⟨o, es, ep, t, ho, hex, hd, g, nd, hm, hb, hf, hn, hr, hl⟩ := R
  refine Calls.call_function_entry kind_sorted plain_sorted entry_sorted (args_sorted1 _) ?_
  unfold Builtin.«sorted»
  refine wpAny_bind (m := checkCount "sorted" 1 1 _) (wpAny_pure (wpAny_bind (collect_set (A := A.in1) hh ⟨o, ho, hex.1, hd⟩ hf hb hr hl fun s1 vs k1 hz g1 o1 pm => ?_)))
  have lv : vs.length = n := by rw [pm.length_eq, List.length_map, Array.length_toList, hn]
  have hI := txts_of vs fun v hv => by
    obtain ⟨e, he, q⟩ := List.mem_map.mp (pm.mem_iff.mp hv)
    obtain ⟨k, tk, h1, _⟩ := g e he
    exact ⟨k, tk, q ▸ h1⟩
  have pk : (vs.map PyProof.Rows.strOf).Perm (es.toList.map txtOf) := by
    have q := pm.map PyProof.Rows.strOf
    rw [List.map_map] at q
    refine q.trans (List.Perm.of_eq (List.map_congr_left fun e he => ?_))
    obtain ⟨k, tk, h1, _⟩ := g e he
    show PyProof.Rows.strOf e.2 = txtOf e
    unfold txtOf
    rw [h1]; rfl
  refine wpAny_bind (wpAny_newList ?_ (by rw [lv, sizeLine_eq]; omega))
  have hoL : (s1.heap.push (seqObj "list" vs.toArray 0)).get? s1.heap.objs.size = some (seqObj "list" vs.toArray 0) := Heap.get?_push_size _ rfl
  refine wpAny_bind (wpAny_holding (wpAny_call_entry slot_list_sort ⟨_, hoL, rfl⟩ entry_list_sort (list_sort_treeK strKind_oneLt hoL hI.keysOf (fun v₁ v₂ rest e => keyKind_strs (by rw [← e]; exact hI)) (by rw [lv]; exact h64) fun st' hp hs => ⟨_, rfl, ?_⟩) (args_list_sort _)))
  obtain ⟨ns, a1, a2, a3⟩ := sorted_out_str hI hp hs
  obtain ⟨c, hc⟩ := sortedHeap_at (vs := vs) (out := (arrOf st').map (·.2)) hoL
  have pn : ns.Perm (es.toList.map txtOf) := a2.trans pk
  refine wpAny_pure ⟨_, rfl, hQ _ s1.heap.objs.size _ c ns (fun b u e => ?_) g1 o1 hz hc a1 a3 (pn.nodup_iff.mpr nd) (fun k => by rw [pn.mem_iff, ← hm k]) (by rw [pn.length_eq, List.length_map, Array.length_toList, hn])⟩
  have q := k1 b u e
  have lt := Heap.lt_size q
  show (sortedHeap (s1.heap.push (seqObj "list" vs.toArray 0)) s1.heap.objs.size vs _).get? b = some u
  rw [sortedHeap_old (Nat.ne_of_lt lt) (by rw [size_push']; exact Nat.lt_succ_of_lt lt)]
  exact Heap.get?_push_of_some _ q
end
end
end PL

set_option linter.all false
set_option maxRecDepth 100000
set_option maxHeartbeats 4000000
/-! PL22: sorted(set(xs)) of ints or of texts. -/
namespace PL
open PySem PySem.Spec L2
variable {wW : World}
def insS (x : Str) : List Str → List Str
  | [] => [x]
  | y :: ys => if x = y then y :: ys else if leS x y = true then x :: y :: ys else y :: insS x ys
def uniqS (xs : List Str) : List Str := xs.foldr insS []
def LtS (a b : Str) : Prop := leS a b = true ∧ a ≠ b
theorem LtS.trans {a b c : Str} (h1 : LtS a b) (h2 : LtS b c) : LtS a c := ⟨leS_trans a b c h1.1 h2.1, fun e => by subst e; exact h1.2 (leS_anti h1.1 h2.1)⟩
theorem ltS_of {a b : Str} (h : ¬leS a b = true) : LtS b a := by
  have := leS_total a b
  rw [Bool.or_eq_true] at this
  exact ⟨this.resolve_left h, fun e => by subst e; exact h (by simpa using leS_total b b)⟩
theorem mem_insS (x k : Str) : ∀ l : List Str, k ∈ insS x l ↔ k = x ∨ k ∈ l
  | [] => by simp [insS]
  | y :: ys => by
    unfold insS
    by_cases h : x = y
    · rw [if_pos h]; subst h; simp
    · rw [if_neg h]
      split
      · simp
      · rw [List.mem_cons, mem_insS x k ys, List.mem_cons]
        exact or_left_comm
theorem pair_insS (x : Str) : ∀ {l : List Str}, l.Pairwise LtS → (insS x l).Pairwise LtS
  | [], _ => by simp [insS]
  | y :: ys, h => by
    obtain ⟨h1, h2⟩ := List.pairwise_cons.mp h
    unfold insS
    by_cases e : x = y
    · rw [if_pos e]; exact h
    · rw [if_neg e]
      split
      · rename_i hl
        refine List.pairwise_cons.mpr ⟨fun z hz => ?_, h⟩
        rcases List.mem_cons.mp hz with rfl | hz
        · exact ⟨hl, e⟩
        · exact LtS.trans ⟨hl, e⟩ (h1 z hz)
      · rename_i hl
        refine List.pairwise_cons.mpr ⟨fun z hz => ?_, pair_insS x h2⟩
        rcases (mem_insS x z ys).mp hz with rfl | hz
        · exact ltS_of hl
        · exact h1 z hz
theorem mem_uniqS (k : Str) : ∀ xs : List Str, k ∈ uniqS xs ↔ k ∈ xs
  | [] => Iff.rfl
  | x :: xs => by
    show k ∈ insS x (uniqS xs) ↔ _
    rw [mem_insS, mem_uniqS k xs, List.mem_cons]
theorem pair_uniqS : ∀ xs : List Str, (uniqS xs).Pairwise LtS
  | [] => List.Pairwise.nil
  | x :: xs => pair_insS x (pair_uniqS xs)
theorem strictS_eq {l m : List Str} (h1 : l.Pairwise LtS) (h2 : m.Pairwise LtS) (h : ∀ k, k ∈ l ↔ k ∈ m) : l = m := by
  have nd : ∀ {l : List Str}, l.Pairwise LtS → l.Nodup := fun h => h.imp fun h => h.2
  exact List.Perm.eq_of_pairwise (le := LtS) (fun a b _ _ h1 h2 => leS_anti h1.1 h2.1) h1 h2 ((List.perm_ext_iff_of_nodup (nd h1) (nd h2)).mpr h)
theorem pair_lt : ∀ {l : List Str}, l.Pairwise (fun a b => leS a b = true) → l.Nodup → l.Pairwise LtS
  | [], _, _ => List.Pairwise.nil
  | x :: l, h, d => by
    obtain ⟨h1, h2⟩ := List.pairwise_cons.mp h
    obtain ⟨d1, d2⟩ := List.nodup_cons.mp d
    exact List.pairwise_cons.mpr ⟨fun y hy => ⟨h1 y hy, fun e => d1 (e ▸ hy)⟩, pair_lt h2 d2⟩
def ssetA (d : D) : M D := match d with
  | .lst ds => guardM (decide (ds.length < 64)) (match intsD ds with
    | some ns => M.pure (.lst ((uniqI ns).map D.int))
    | none => (opt (strsD ds)).bind fun xs => M.pure (.lst ((uniqS xs).map D.str)))
  | _ => M.bad
section
variable {X : Cx} {E : XK} {H0 : Hp} {a : Expr} {f : En → M D} {pos p p2 q : Pos}
def SetTO (P : Program) (w : World) (a : Addr) (S : Str → Bool) (n : Nat) : HO := .ext fun h => SetT P w h a S n
theorem setTO_new {P : Program} {w : World} {H : Hp} {h : Heap} {a : Addr} {S : Str → Bool} {n : Nat} (R : SetT P w h a S n) : ObjOk P w H h a (SetTO P w a S n) := by
  have ⟨o, _, _, _, ho, _⟩ := R
  exact ⟨R, ⟨o, ho⟩, fun h1 h2 p k => SetT.keep p k⟩
theorem setTO_get {pins : List (Addr × Obj)} {σ : L2.St} {H : Hp} {s : Shared} {a : Addr} {S : Str → Bool} {n : Nat} (I : Inv X pins σ H s) (ha : H a = some (SetTO X.prog X.w a S n)) : SetT X.prog X.w s.heap a S n := (I.hok a _ ha).1
def rSetT (K : PySem.W.Frag) (P : Program) (w : World) : List V → Hp → VK → Prop := fun xs H Q => ∃ (p : Addr) (ns : List Str), xs = [V.ref p] ∧ SqL K H p (ns.map V.str) ∧ ns.length < 64 ∧ ∀ (l : Addr) (c : Nat), H l = none → c ≤ ns.length → Q (.ref l) (upd H l (SetTO P w l (fun j => decide (j ∈ ns)) c))
theorem cr_setT (hc : X.calm = true) : CallR X (.type "set") (rSetT X.K X.prog X.w) := by
  intro pins s σ H vs us Q I r h
  obtain ⟨l, ns, rfl, hs, h64, k⟩ := h
  obtain ⟨its, rv, hl, _⟩ := I.list hs
  rw [Vals.ref1 r]
  refine set_of_txts ns (I.ok.hd hc) hl.isList (by simpa using rv.strs) (by unfold scanBound; omega) fun h' tk c R hcn kp => ?_
  exact ⟨.ref _, upd H s.heap.objs.size (SetTO X.prog X.w s.heap.objs.size (fun j => decide (j ∈ ns)) c), I.laid (t' := tk) kp (Nat.le_refl _) (setTO_new R), rfl, k _ c (I.hok.fresh (Nat.le_refl _)) hcn⟩
def rSortT (P : Program) (w : World) : List V → Hp → VK → Prop := fun vs H Q => ∃ (a : Addr) (S : Str → Bool) (n : Nat), vs = [V.ref a] ∧ H a = some (SetTO P w a S n) ∧ n < 64 ∧ ∀ (ns : List Str) (p : Addr), PyProof.Rows.sortedS ns = true → ns.Nodup → (∀ k, k ∈ ns ↔ S k = true) → ns.length = n → H p = none → Q (.ref p) (upd H p (.lst (ns.map V.str)))
theorem cr_sortT (hc : X.calm = true) : CallR X (.builtin "sorted") (rSortT X.prog X.w) := by
  intro pins s σ H vs us Q I r h
  obtain ⟨a, S, n, rfl, ha, h64, q⟩ := h
  rw [Vals.ref1 r]
  refine sorted_setT (setTO_get I ha) (I.ok.hd hc) h64 fun s' p out c ns k g o hp hg hi hs hnd hm hl => ?_
  have hlen : (ns.map V.str).length ≤ sizeLine := by rw [List.length_map, hl, sizeLine_eq]; omega
  have hn : H p = none := I.hok.fresh hp
  have J : Inv X pins σ (upd H p (.lst (ns.map V.str))) { s with heap := s'.heap, gens := s'.gens, drawn := s'.drawn, toks := s'.toks } :=
    I.call (ch := []) (Un.laid k hp hn) (I.hok.laid k hp ⟨hlen, out.toList, c, vals_of_strs hi, hg⟩) (by rw [g]; exact I.bare) (fun _ z => nomatch z)
  have e : s' = { s with heap := s'.heap, gens := s'.gens, drawn := s'.drawn, toks := s'.toks } := by
    cases s'; cases s; cases o; rfl
  rw [e]
  exact ⟨.ref p, _, J, rfl, q ns p hs hnd hm hl hn⟩
theorem je_sset2 (hc : X.calm = true) (hg : Gl X "sorted") (hm : X.mg "sorted" = none) (hg2 : Gl X "set") (hm2 : X.mg "set" = none) (ha : JB X E H0 f a)
    (hs : starEach [a] X.env = (false, eval a X.env) :: starEach [] X.env := by rfl) (hs2 : starEach [.Call (.Name "set" p2) [a] [] q] X.env = (false, eval (.Call (.Name "set" p2) [a] [] q) X.env) :: starEach [] X.env := by rfl) :
    JE X E H0 (e1 ssetA f) (.Call (.Name "sorted" p) [.Call (.Name "set" p2) [a] [] q] [] pos) := by
  refine PE.imp (pe_callB ((cr_sortedSet hc).or (cr_sortT hc)) hg hm (by decide +kernel) (pa_one (pe_callTy ((cr_setI hc).or (cr_setT hc)) hg2 hm2 (by decide +kernel) (pa_one ha hs) (by decide) (by decide) hs rfl) hs2) (by decide) (by decide) hs2 rfl) fun σ H Q ⟨G, μ, st, ρ, w, er, k⟩ => ?_
  refine ⟨G, μ, st, ρ, w, er, Post.bind k fun d st1 x H1 G1 μ1 w1 s1 r1 k1 => ?_⟩
  cases d with
  | lst ds =>
    have k1' : Post X.w X.K X.mg E (rRep X.K) H1 G1 μ1 ((guardM (decide (ds.length < 64)) (match intsD ds with
      | some ns => M.pure (.lst ((uniqI ns).map D.int))
      | none => (opt (strsD ds)).bind fun xs => M.pure (.lst ((uniqS xs).map D.str)))) st1) Q := k1
    obtain ⟨c, k1⟩ := Post.guard k1'
    have c := of_decide_eq_true c
    obtain ⟨l, vs, rfl, hl, r⟩ := r1.weak.lst w1.imm
    cases hi : intsD ds with
    | some ns =>
      rw [hi] at k1
      have e := ints_rep r hi
      subst e
      have hlen : ns.length < 64 := by rw [intsD_len hi]; exact c
      refine .inl ⟨l, ns, rfl, .inl (.inl hl), hlen, fun t n ht hn => .inl ?_⟩
      obtain ⟨w2, s2⟩ := w1.lay (o := SetO X.w t (fun j => decide (j ∈ ns)) n) ht
      refine ⟨t, _, n, rfl, upd_same, by omega, fun ns' p2 hp hmem hlen' hn2 => ?_⟩
      have e : ns' = uniqI ns := strict_eq hp (pair_uniqI ns) fun k => by rw [mem_uniqI, hmem]; simp
      subst e
      obtain ⟨w3, s3⟩ := w2.new (o := .lst ((uniqI ns).map V.int)) hn2
      exact k1 _ _ _ _ w3 (s2.trans s3) (.lst upd_same (rep_ints _))
    | none =>
      rw [hi] at k1
      obtain ⟨ns, hi2, k1⟩ := Post.opt k1
      have e := strs_rep r hi2
      subst e
      have hlen : ns.length < 64 := by rw [strsD_len hi2]; exact c
      refine .inr ⟨l, ns, rfl, .inl (.inl hl), hlen, fun t n ht hn => .inr ?_⟩
      obtain ⟨w2, s2⟩ := w1.lay (o := SetTO X.prog X.w t (fun j => decide (j ∈ ns)) n) ht
      refine ⟨t, _, n, rfl, upd_same, by omega, fun ns' p2 hp hnd hmem hlen' hn2 => ?_⟩
      have e : ns' = uniqS ns := strictS_eq (pair_lt (pairS hp) hnd) (pair_uniqS ns) fun k => by rw [mem_uniqS, hmem]; simp
      subst e
      obtain ⟨w3, s3⟩ := w2.new (o := .lst ((uniqS ns).map V.str)) hn2
      exact k1 _ _ _ _ w3 (s2.trans s3) (.lst upd_same (rep_strs _))
  | _ => exact k1.elim
end
end PL

set_option linter.all false
set_option maxRecDepth 100000
set_option maxHeartbeats 4000000
/-! PL23: defs with lambdas; own exceptions and what hears, from what the top has written; the law's start with its tables. -/
namespace PL
open PySem PySem.Spec L2
variable {wW : World}
/-- a def whose code object stands at c -/
structure FnL (K : PySem.W.Frag) (mg : Str → Option Value) (x : Str) (st : Stmt) (ps : List Str) (c : Addr) : Prop where
  ex : ∃ (fa : Addr) (oc kV doc pm ct : Value) (od an : Option Addr) (osl : Array (Option Value)), K.lookup fa = some ⟨oc, od, .func (PySem.W.fnOf x x (defArgs st) (defBody st) (defScope st) .none kV doc pm an (.ref c) ct), osl⟩ ∧ PySem.W.codeIn K (.ref c) x = true ∧ PySem.W.keepIn K (.ref fa) = true ∧
    mg x = some (.ref fa) ∧ ∀ us : List Value, us.length = ps.length → bindArgs (PySem.W.fnOf x x (defArgs st) (defBody st) (defScope st) .none kV doc pm an (.ref c) ct) ⟨us, []⟩ = pure (ps.zip us)
theorem own_defL {P : Program} {w : World} {K : PySem.W.Frag} {mg : Str → Option Value} {base : Heap} {k : Nat} {x : Str} {st : Stmt} {N ps : List Str} {c : Addr} {f : En → M (Fl × En)} (F : FnL K mg x st ps c) (S : FnScope N ps (defScope st))
    (body : ∀ (fa : Addr) (A : Around) (outer : List Env) (s : Shared) (H G : Hp) (μ : Mu) (E : XK), Room k (A.deeper (PyProof.Rows.envOfC x (defScope st) s.heap.objs.size fa (.ref c))) →
      JSs (cxOf (L2.CX P w) P w K mg base N x (defScope st) fa (.ref c) A outer s H E) E ⟨H, G, μ⟩ f (defBody st)) :
    Own P w K mg base (k + 1) x ps (runB N.length f) := by
  obtain ⟨fa, oc, kV, doc, pm, ct, od, an, osl, lk, hcd, kp, m, b⟩ := F.ex
  refine ⟨fa, _, fn_of lk hcd S (fun vs H Q E h => ?_) (fun A outer s H vs Q E hr h => ?_), m, kp, b, ⟨_, _, _, lk⟩⟩
  · obtain ⟨G, μ, st, ds, _, r, l, _⟩ := h
    rw [RepL.length r, l]
  · obtain ⟨G, μ, st0, ds, wd, r, l, q⟩ := h
    refine ⟨_, body fa A outer s H G μ E hr, G, μ, st0, _, wd, er_start (N := N) r, .refl, ?_⟩
    unfold runB M.bind at q
    cases e : f (ds.map Slot.val ++ List.replicate (N.length - ds.length) Slot.no) st0 with
    | ok a st' =>
      rw [e] at q
      obtain ⟨fl, ρ'⟩ := a
      intro σ' H' G' μ' w' er' s'
      cases fl with
      | nx => exact q .non H' G' μ' w' s' .non
      | ret d => exact fun v rv => q v H' G' μ' w' s' rv
      | brk => exact q.elim
      | ct => exact q.elim
    | err x st' =>
      rw [e] at q
      exact q
    | bad => rw [e] at q; exact q
section
variable {K : PySem.W.Frag} {h : Heap} {mg : Str → Option Value}
theorem fnL_of {x : Str} {st : Stmt} {f c : Addr} {oc : Value} {od an : Option Addr} {osl : Array (Option Value)} {kV doc pm ct : Value} (X : K.In h) (N : h.Ns mainGlobals mg) (ps : List Str) (a : PySem.W.nsIn K mainGlobals x = some (some (.ref f)))
    (l : K.lookup f = some ⟨oc, od, .func (PySem.W.fnOf x x (defArgs st) (defBody st) (defScope st) .none kV doc pm an (.ref c) ct), osl⟩) (cc : PySem.W.codeIn K (.ref c) x = true) (k : PySem.W.keepIn K (.ref f) = true)
    (hb : ∀ (kV doc pm : Value) (an : Option Addr) (cdv ct : Value) (us : List Value), us.length = ps.length → bindArgs (PySem.W.fnOf x x (defArgs st) (defBody st) (defScope st) .none kV doc pm an cdv ct) ⟨us, []⟩ = pure (ps.zip us)) : FnL K mg x st ps c :=
  ⟨f, oc, kV, doc, pm, ct, od, an, osl, l, cc, k, PySem.W.mg_of X N a, hb _ _ _ _ _ _⟩
/-- an own exception class -/
theorem xc_of {P : Program} {w : World} {base : Heap} {x qual f g : Str} {st : Stmt} {C fI : Addr} {oc kV doc pm cdv ct : Value} {od an : Option Addr} {osl : Array (Option Value)} (X : K.In h) (Ns : h.Ns mainGlobals mg) (T : OexC K C)
    (a : PySem.W.nsIn K mainGlobals x = some (some (.ref C))) (iC : PySem.W.findIn K (.ref C) "__init__" = some (some (.ref fI))) (tI : PySem.W.typeIn K (.ref fI) = some (.type "function"))
    (l : K.lookup fI = some ⟨oc, od, .func (PySem.W.fnOf "__init__" qual (defArgs st) (defBody st) (defScope st) .none kV doc pm an cdv ct), osl⟩) (cc : PySem.W.codeIn K cdv qual = true) (kp : PySem.W.keepIn K (.ref fI) = true)
    (hf : PySem.W.findIn K (.ref C) f = some none) (hg : PySem.W.findIn K (.ref C) g = some none) (ga : PySem.W.findIn K (.ref C) "__getattribute__" = some (some (.builtin "BaseException.__getattribute__"))) (gg : PySem.W.findIn K (.ref C) "__getattr__" = some none) (hd : PySem.W.hasDictIn K C = true)
    (ex : PySem.W.exmOne K (.ref C) (.ref C) = some true) (S : FnScope ["self", f, g] ["self", f, g] (defScope st)) {p1 p2 p3 p4 p5 p6 p7 p8 : Pos}
    (hb : defBody st = [.Assign [.Attribute (.Name "self" p1) f p2] (.Name f p3) p4, .Assign [.Attribute (.Name "self" p5) g p6] (.Name g p7) p8])
    (vs : Vis (defScope st) "self") (vf : Vis (defScope st) f) (vg : Vis (defScope st) g) (df : (f == ("__debug__" : Str)) = false) (dg : (g == ("__debug__" : Str)) = false) (cf : (f == ("__classdict__" : Str)) = false) (cg : (g == ("__classdict__" : Str)) = false)
    (bi : ∀ (kV doc pm : Value) (an : Option Addr) (cdv ct : Value) (us : List Value), us.length = 3 → bindArgs (PySem.W.fnOf "__init__" qual (defArgs st) (defBody st) (defScope st) .none kV doc pm an cdv ct) ⟨us, []⟩ = pure ((["self", f, g] : List Str).zip us)) : Xc P w K mg base x f g := by
  have F : L2.Fun K "__init__" qual st fI _ := fun_mk l cc kp
  exact ⟨C, fI, _, T, iC, tI, init_two F S T hf hg hb vs vf vg df dg cf cg, PySem.W.mg_of X Ns a, .all (bi _ _ _ _ _ _), ⟨ga, gg, T.exC, hd⟩, hf, hg, ex⟩
end
/-- what hears, from what the top has written -/
theorem hears_of {P : Program} {w : World} {K : PySem.W.Frag} {h : Heap} {mg : Str → Option Value} {base : Heap} {x a e cx f g : Str} {st : Stmt} {gd CS : Addr} {oc : Value} {od an : Option Addr} {osl : Array (Option Value)} {kV doc pm cdv ct : Value} (X : K.In h) (N : h.Ns mainGlobals mg) (R : Xc P w K mg base cx f g) (hm : mg cx = some (.ref CS))
    (a0 : PySem.W.nsIn K mainGlobals x = some (some (.ref gd))) (l : K.lookup gd = some ⟨oc, od, .func (PySem.W.fnOf x x (defArgs st) (defBody st) (defScope st) .none kV doc pm an cdv ct), osl⟩) (cc : PySem.W.codeIn K cdv x = true) (k : PySem.W.keepIn K (.ref gd) = true)
    (S : FnScope [a, e] [a] (defScope st)) (hva : Vis (defScope st) a) (hne : ([a, e] : List Str).Nodup) (hle : (defScope st).names.lookup e = some .local) (hee : (e == ("__debug__" : Str)) = false) (hec : (e == ("__classdict__" : Str)) = false) (hge : (defScope st).names.lookup cx = some .globalImplicit) (hde : (cx == ("__debug__" : Str)) = false)
    {j j2 k1 k2 : Nat} {p1 p2 p3 p4 p5 p6 p7 p8 p9 p10 p11 p12 p13 p14 p15 : Pos}
    (hb : defBody st = [.Try [.Return (some (.Tuple [.Constant (.str "gave") j p5, .Call (.Name a p1) [] [] p2] k1 p6)) p3]
      [.ExceptHandler (some (.Name cx p4)) (some e) [.Return (some (.Tuple [.Constant (.str cx) j2 p9, .Attribute (.Name e p10) f p11, .Attribute (.Name e p12) g p13] k2 p14)) p15] p7] [] [] p8])
    (bi : ∀ (kV doc pm : Value) (an : Option Addr) (cdv ct : Value) (us : List Value), us.length = 1 → bindArgs (PySem.W.fnOf x x (defArgs st) (defBody st) (defScope st) .none kV doc pm an cdv ct) ⟨us, []⟩ = pure ([a].zip us)) : Hears P w K mg x a (tHear CS cx f g) := by
  obtain ⟨C, fI, fd, T, iC, tI, F1, hm2, hb2, xf, hf, hg, ex⟩ := R.ex
  rw [hm] at hm2; cases hm2
  refine ⟨gd, defArgs st, defBody st, defScope st, .none, kV, doc, pm, cdv, ct, oc, an, od, osl, [a, e], PySem.W.mg_of X N a0, k, l, cc, .all (bi _ _ _ _ _ _), S, rfl, hva, fun X' q e1 e2 e3 e4 => ?_⟩
  subst e1 e2 e3 e4
  rw [hb]
  exact hear_gives xf hf hg ex hge hm hde hne hle hee hec

/-! ### the law's start -/
def tabS (cs : List (Str × Addr × Addr)) : Sto := cs.map fun p => .tab p.2.2 (lq p.1)
def muT (cs : List (Str × Addr × Addr)) : Mu := fun n => (cs[n]?).map (·.2.2)
def spLawT (K : PySem.W.Frag) (cs : List (Str × Addr × Addr)) : Sp := fun vs H Q _ => ∃ (a : Addr) (ns : List Int), vs = [.ref a] ∧ SqL K H a (ns.map V.int) ∧ ns.length ≤ 63 ∧ (∀ p ∈ cs, H p.2.2 = some (.tbl #[])) ∧ ∀ H', Q (.bl true) H'
section
variable {K : PySem.W.Frag} {mg : Str → Option Value}
theorem law_endT {P : Program} {w : World} {base : Heap} {k : Nat} {fa : Addr} {fd : FuncData} {x : Str} {m : List D → M D} (cs : List (Str × Addr × Addr)) (nd : (cs.map (·.2.2)).Nodup) (F : FnOk P w K mg base (L2.CX P w) k fa fd [x] (SpOf w K mg 1 m)) (hm : ∀ ns : List Int, ns.length ≤ 63 → ∃ st, m [.frz (ns.map D.int)] (tabS cs) = .ok (.bl true) st) :
    FnOk P w K mg base (L2.CX P w) k fa fd [x] (spLawT K cs) := F.imp fun vs H Q E ⟨a, ns, e, hs, hl, ht, q⟩ => by
  subst e
  obtain ⟨st, hst⟩ := hm ns hl
  have hG : ∀ b o, (match H b with | some (.tbl _) => none | o => o) = some o → H b = some o := fun b o z => by
    cases e : H b with
    | none => rw [e] at z; cases z
    | some u =>
      rw [e] at z
      cases u <;> first | exact z | cases z
  have hT : ∀ b o, H b = some o → (∀ ps, o ≠ .tbl ps) → (match H b with | some (.tbl _) => none | o => o) = some o := fun b o e n => by
    rw [e]
    cases o <;> first | rfl | exact absurd rfl (n _)
  refine ⟨fun b => match H b with | some (.tbl _) => none | o => o, muT cs, tabS cs, [.frz (ns.map D.int)], ⟨hG, fun n o h => ?_, fun n m a h1 h2 => ?_, fun n a h => ?_⟩, .cons (.frz (hs.imp (fun r => r.imp (fun e => hT _ _ e fun _ z => nomatch z) fun ⟨o, e⟩ => ⟨o, hT _ _ e fun _ z => nomatch z⟩) id) (rep_ints ns)) .nil, rfl, ?_⟩
  · unfold tabS at h
    rw [List.getElem?_map] at h
    cases e : cs[n]? with
    | none => rw [e] at h; cases h
    | some p =>
      rw [e] at h
      cases h
      have hp := ht p (List.mem_of_getElem? e)
      exact ⟨p.2.2, by unfold muT; rw [e]; rfl, by rw [hp], rfl, #[], hp, trivial, fun pos cv hc => by simp [codeAmong] at hc⟩
  · unfold muT at h1 h2
    rw [← List.getElem?_map] at h1 h2
    exact (List.getElem?_inj (List.getElem?_eq_some_iff.mp h1).1 nd).mp (h1.trans h2.symm)
  · unfold muT at h
    cases e : cs[n]? with
    | none => rw [e] at h; cases h
    | some p => unfold tabS; rw [List.length_map]; exact (List.getElem?_eq_some_iff.mp e).1
  · rw [hst]
    intro v H' G' μ' _ _ r
    cases r
    exact q H'
/-- a table of the head -/
theorem tab_at {q : Program} {loose : List Str} {mean : ExcName → Option Value} {mb : Str → Option Value} {h : Heap} {x : Str} {f c P : Addr} {oc fc : Value} {od ad : Option Addr} {osl asl : Array (Option Value)} {fd : FuncData} {vs : Array Value} (T : PyProof.Rows.Top q loose mean mg mb h) (X : K.In h)
    (hx : ((PyProof.Rows.recsOf q).any fun e => e.name == x) = true) (a : PySem.W.nsIn K mainGlobals x = some (some (.ref f))) (l : K.lookup f = some ⟨oc, od, .func fd, osl⟩) (hc : fd.code = .ref c) (lc : K.lookup c = some ⟨fc, ad, .fields vs, asl⟩) (hv : vs[11]? = some (.ref P)) :
    PySem.W.CodeHd h c P ∧ h.get? P = some { cls := .none, data := .fields #[] } := by
  obtain ⟨d, hm, hn⟩ := List.any_eq_true.mp hx
  obtain ⟨a', o', fd', c', P', h1, h2, h3, h4, h5, h6⟩ := T.tab d hm
  rw [beq_iff_eq.mp hn, PySem.W.mg_of X T.g a] at h1
  cases h1
  rw [X _ _ l] at h2; cases h2
  cases h3
  rw [hc] at h4; cases h4
  obtain ⟨⟨ob, us, g1, g2, g3, g4⟩, g5⟩ := id h6
  rw [X _ _ lc] at g1; cases g1
  cases g3
  rw [hv] at g4; cases g4
  exact ⟨PySem.W.CodeHd.of h5 h6, g5⟩
end
theorem walk_tabs {l : PySem.W.OpenLaw} {n k : Nat} {q : Program} {loose : List Str} {XP : (Str → Option Value) → Heap → Prop} {YP : World → Heap → Prop} {d : DefRec} {K : Params → PySem.W.Frag} {CX : World → CXT} {x : Str}
    (hn : l.most = some n) (hn2 : n ≤ sizeLine) (hdf : d.params.defaults = []) (hr : Room k callerA) (hY : ∀ (w : World) (h : Heap), YP w h → (K w.params).In h)
    (F : ∀ (w : World) (mg : Str → Option Value) (fa : Addr) (h : Heap), (K w.params).In h → h.Ns mainGlobals mg → mg d.name = some (.ref fa) → (∃ loose mean mb, PyProof.Rows.Top q loose mean mg mb h) →
      ∃ (fd : FuncData) (cs : List (Str × Addr × Addr)), (∀ p ∈ cs, PySem.W.CodeHd h p.2.1 p.2.2 ∧ h.get? p.2.2 = some { cls := .none, data := .fields #[] } ∧ (K w.params).lookup p.2.2 = none) ∧ (∀ (s : Shared) (u : Value), BindsTo s fd ⟨[u], []⟩ [(x, u)]) ∧
        ∀ base : Heap, (K w.params).In base → base.Ns mainGlobals mg → (∀ p ∈ cs, LamX.TabB base mg p.2.1 p.2.2) → FnOk l.prog w (K w.params) mg base (CX w) k fa fd [x] (spLawT (K w.params) cs))
    (hle : n ≤ 63) (hCX : ∀ (w : World) (H : Hp) (s : Shared) (e : Value) (s' : Shared), CX w [] H s (fun _ _ _ => False) e s' → False) :
    PySem.W.WalkO q loose XP YP l.row.toRowW d [] (fun f vs => PySem.call f vs) := by
  refine Att.attach_callB hn hdf fun w s₀ s₁ mg mb fa o pm cd doc a vs ns G Y ho hd hcd hmg hobj hints hlen hbits hg => ?_
  have KX := hY w _ Y
  obtain ⟨fd, cs, hT, hb, hF⟩ := F w mg fa _ KX G.T.g hmg ⟨_, _, _, G.T⟩
  have mm : ∀ {p : Addr × Addr}, p ∈ cs.map (·.2) → ∃ r ∈ cs, r.2 = p := fun h => let ⟨r, h1, h2⟩ := List.mem_map.mp h; ⟨r, h1, h2⟩
  refine LamX.law_callTs (cs := cs.map (·.2)) (sp := spLawT (K w.params) cs) KX G.T.g G.T.b G.T.builtins G.T.nolimit hg (fun p hp => ?_) (fun p hp => ?_) (fun p hp => ?_) G.T.bmain hobj hints (Nat.le_trans hlen hn2) hr (fun base h1 h2 h3 => hF base h1 h2 fun p hp => h3 _ (List.mem_map.mpr ⟨p, hp, rfl⟩)) hb (fun H hH hS => ⟨a, ns, rfl, hS, Nat.le_trans hlen hle, fun p hp => hH _ (List.mem_map.mpr ⟨p, hp, rfl⟩), fun _ => rfl⟩) fun H e s' => hCX w H s₁ e s'
  · obtain ⟨r, hr, rfl⟩ := mm hp; exact (hT r hr).2.1
  · obtain ⟨r, hr, rfl⟩ := mm hp; exact (hT r hr).2.2
  · obtain ⟨r, hr, rfl⟩ := mm hp; exact (hT r hr).1
end PL
namespace PL
open PySem PySem.Spec L2
variable {wW : World}
theorem own_lawT {P : Program} {w : World} {K : PySem.W.Frag} {mg : Str → Option Value} {k : Nat} {fa : Addr} {x y : Str} {st : Stmt} {m : List D → M D} (cs : List (Str × Addr × Addr)) (nd : (cs.map (·.2.2)).Nodup) (hfa : mg x = some (.ref fa)) (hm : ∀ ns : List Int, ns.length ≤ 63 → ∃ st, m [.frz (ns.map D.int)] (tabS cs) = .ok (.bl true) st) (F : Fn0 K mg x st [y])
    (O : ∀ base : Heap, (∀ p ∈ cs, LamX.TabB base mg p.2.1 p.2.2) → Own P w K mg base k x [y] m) : ∃ fd, (∀ (s : Shared) (u : Value), BindsTo s fd ⟨[u], []⟩ [(y, u)]) ∧ ∀ base : Heap, K.In base → base.Ns mainGlobals mg → (∀ p ∈ cs, LamX.TabB base mg p.2.1 p.2.2) → FnOk P w K mg base (L2.CX P w) k fa fd [y] (spLawT K cs) := by
  obtain ⟨fa1, fd, F, e, b⟩ := F.ex
  rw [hfa] at e; cases e
  refine ⟨fd, fun s u => .of_eq (b [u] rfl), fun base _ _ tb => ?_⟩
  obtain ⟨fa2, fd', F2, e, _, b2, oc, od, sl, l⟩ := (O base tb).ex
  rw [hfa] at e; cases e
  obtain ⟨oc1, od1, sl1, l1⟩ := Fun.lk F
  rw [l] at l1
  have e2 : fd' = fd := by injection l1 with h; injection h with _ _ h; injection h
  subst e2
  exact law_endT cs nd F2 hm
end PL

set_option linter.all false
set_option maxRecDepth 100000
set_option maxHeartbeats 6000000
/-! PL24: enumerate of lists and of tuples. -/
namespace PL
section
open PySem PySem.Spec PyProof.Rows L2
variable {wW : World}
open AutoSeq1 (wpAny_loadPart')
theorem enum_newT (t : Addr) (xs : Array Value) (m : Nat) (dd : Option Addr) (ss : Array (Option Value)) :
    Meets (Builtin.«enumerate.__new__» ⟨[.type "enumerate", .ref t], []⟩) (fun _ R s => s.heap.get? t = some ⟨.type "tuple", dd, .seq xs m, ss⟩ ∧
      R (.ok (.ret (.ref (s.heap.push ⟨.type "tuple_iterator", none, .fields #[.ref t, .int 0 0], #[]⟩).objs.size)))
        { s with heap := (s.heap.push ⟨.type "tuple_iterator", none, .fields #[.ref t, .int 0 0], #[]⟩).push ⟨.type "enumerate", none, .fields #[.none, .bool false, .ref s.heap.objs.size, rawInt 0, .none, .none], #[]⟩ }) :=
  .of_wp fun P w A R s hh => by
    obtain ⟨hp, gg, di, tk, os⟩ := s
    obtain ⟨ht, hh⟩ := hh
    have hsb := sub_enumerate
    have hT : Heap.IsTuple (Shared.heap ⟨hp, gg, di, tk, os⟩) t xs := ⟨_, ht, rfl, m, rfl⟩
    wp_walk using wpAny_loadPart' ht
    refine wpAny_stack_any fun sk => ?_
    refine wpAny_pure ?_
    split
    · rename_i c _ _ _ _ _
      cases (c == Value.type "enumerate")
      · wp_walk using wpAny_loadPart' ht, wpAny_pyIter_tuple hT
        exact ⟨_, rfl, hh⟩
      · wp_walk using wpAny_loadPart' ht, wpAny_pyIter_tuple hT
        exact ⟨_, rfl, hh⟩
    · wp_walk using wpAny_loadPart' ht, wpAny_pyIter_tuple hT
      exact ⟨_, rfl, hh⟩
section
variable {P : Program} {w : World} {A : Around} {E : Value → Shared → Prop} {s : Shared}
theorem enum_call_tuple {t : Addr} {xs : Array Value} {Q : Value → Shared → Prop} (ht : s.heap.IsTuple t xs)
    (k : ∀ h', IsEnum h' (s.heap.objs.size + 1) s.heap.objs.size 0 .none → h'.IsTupleIter s.heap.objs.size t 0 →
      (∀ b o, s.heap.get? b = some o → h'.get? b = some o) → Q (.ref (s.heap.objs.size + 1)) { s with heap := h' }) :
    wpAny (model P w) A (call (.type "enumerate") [.ref t]) Q E s := by
  obtain ⟨⟨c, dd, dt, ss⟩, hl, hc, m, hd⟩ := ht
  have hc' : c = .type "tuple" := hc
  have hd' : dt = .seq xs m := hd
  subst hc' hd'
  refine callType_new F.called_enumerate (by decide) (F.typeCall_enumerate_1 _) (F.newCall_enumerate_1 _) (fun ob => F.args_object_init_2 ob _) F.entry_enumerate_new (enum_newT t xs m dd ss) ⟨hl, ?_⟩
  have sz : (s.heap.push ⟨.type "tuple_iterator", none, .fields #[.ref t, .int 0 0], #[]⟩).objs.size = s.heap.objs.size + 1 := Heap.size_push ..
  show _ ∧ _
  rw [sz]
  have hE : IsEnum ((s.heap.push ⟨.type "tuple_iterator", none, .fields #[.ref t, .int 0 0], #[]⟩).push
      ⟨.type "enumerate", none, .fields #[.none, .bool false, .ref s.heap.objs.size, rawInt 0, .none, .none], #[]⟩) (s.heap.objs.size + 1) s.heap.objs.size 0 .none := by
    have z := Heap.get?_push_size (s.heap.push ⟨.type "tuple_iterator", none, .fields #[.ref t, .int 0 0], #[]⟩)
      (o := ⟨.type "enumerate", none, .fields #[.none, .bool false, .ref s.heap.objs.size, rawInt 0, .none, .none], #[]⟩) rfl
    rw [sz] at z
    exact z
  exact ⟨⟨_, hE, rfl⟩, k _ hE ⟨_, Heap.get?_push_of_some _ (Heap.get?_push_size _ rfl), rfl, rfl⟩ fun b ob z => Heap.get?_push_of_some _ (Heap.get?_push_of_some _ z)⟩
theorem enum_end_tuple {e it t : Addr} {j : Nat} {i : Int} {xs : Array Value} {old : Value} {Q : Option Value → Shared → Prop} (hd : A.handled = none) (he : IsEnum s.heap e it i old) (hi : s.heap.IsTupleIter it t j) (ht : s.heap.IsTuple t xs) (hx : xs[j]? = none)
    (k : ∀ h', Heap.ExtBut it s.heap h' → Q none { s with heap := h' }) : wpAny (model P w) A (pyNext (.ref e)) Q E s := by
  have ty : s.TypeIs (.ref e) "enumerate" := ⟨_, he, rfl⟩
  unfold pyNext
  refine wpAny_bind (wpAny_attempt (wpAny_callSpecial?_slot (name := Str.ofString "__next__") ty F.slot_enumerate_next (wpAny_call_entry F.slot_enumerate_next ty F.entry_enumerate_next ?_ (F.args_enumerate_next_1 _))))
  show wpAny _ _ (field (.ref e) 2 >>= _) _ _ _
  refine wpAny_bind (wpAny_field he rfl (x := .ref it) rfl ?_)
  refine wpAny_bind (wpAny_nextOf_tuple_end (A := A.in1) hd hi ht hx fun h' x eb hx' => ?_)
  obtain ⟨ob, ho, hc⟩ := hx'
  refine wpAny_bind (wpAny_isInstance (T := "StopIteration") (b := true) ⟨ob, ho, hc⟩ isSubtype_stop ?_)
  exact wpAny_pure (k _ eb)
end
/-- the tuple at a, each item in a new pair -/
def IteT (K : PySem.W.Frag) (a : Addr) : It :=
  ⟨fun i H => ∃ (xs : List V) (x : V), SqT K H a xs ∧ xs[i]? = some x, fun i H v H' => ∃ T x, v = .ref T ∧ H T = none ∧ H' = upd H T (.tup [.int (i : Nat), x]) ∧ ∀ xs, SqT K H a xs → xs[i]? = some x, fun i H => ∃ xs : List V, SqT K H a xs ∧ xs.length ≤ i⟩
theorem turn_enumT {P : Program} {w : World} {K : PySem.W.Frag} {elts : List Expr} {kk : Nat} {tpos : Pos} (a e it : Addr) :
    Turn P w K (.Tuple elts kk tpos) (IteT K a) [e, it] e (fun i h => (∃ old, IsEnum h e it ((i : Nat) : Int) old) ∧ h.IsTupleIter it a i ∧ e ≠ it) where
  mem := by simp
  obj := fun i h st b hb => by
    obtain ⟨⟨old, he⟩, ⟨ob, ho, hc, hd⟩, _⟩ := st
    have z : b = e ∨ b = it := by simpa using hb
    rcases z with q | q
    · rw [q]; exact ⟨_, he, fun v z => nomatch z⟩
    · rw [q]; exact ⟨ob, ho, fun v z => by rw [hd] at z; cases z⟩
  keep := fun i h h' st k => let ⟨⟨old, he⟩, hi, hne⟩ := st; ⟨⟨old, k e (by simp) _ he⟩, hi.at fun ob q => k it (by simp) ob q, hne⟩
  item := by
    intro X hP hw hK hc i pins s σ H E I hf st hg
    subst hP hw hK
    obtain ⟨⟨old, he⟩, hit, hne⟩ := st
    obtain ⟨xs, x, hq, hx⟩ := hg
    obtain ⟨us, rv, p, hz⟩ := I.tuple hq
    obtain ⟨u, hu, ru⟩ := rv.get hx
    have p' : s.heap.IsTuple a us.toArray := p
    have lte : e < s.heap.objs.size := Heap.lt_size he
    have lti : it < s.heap.objs.size := by obtain ⟨_, q, _⟩ := hit; exact Heap.lt_size q
    have nea : e ≠ a := fun q => by
      subst q
      obtain ⟨ob, ho, hc', _⟩ := p'
      rw [he] at ho
      cases ho
      exact absurd (show Value.type "enumerate" = Value.type "tuple" from hc') (by decide)
    have nia : a ≠ it := fun q => by
      subst q
      obtain ⟨ob, ho, hc', _⟩ := p'
      obtain ⟨ob2, ho2, hc2, _⟩ := hit
      rw [ho] at ho2
      cases ho2
      exact absurd (hc'.symm.trans hc2) (by decide)
    have hu' : us.toArray[i]? = some u := by simpa using hu
    have li : i < us.toArray.size := (Array.getElem?_eq_some_iff.mp hu').1
    refine wpAny_pyNext_enum_itemD (Draws.tuple (A := X.A.in1) (show X.A.in1.handled = none from I.ok.hd hc) it a nia us.toArray) he ⟨hit, p'⟩ li hne (by simp [hne, nea]) fun y h' tk hy ho st' hT hsz hk => ?_
    obtain rfl : y = u := Option.some.inj (hy.symm.trans hu')
    refine ⟨_, rfl, wpAny_letOwnedTupleGo_enum (s := { s with heap := h', toks := tk + 1 }) ho fun h2 he2 sb => ?_⟩
    have hT2 : h2.get? s.heap.objs.size = some ⟨.type "tuple", none, .seq #[.int i tk, y] 0, #[]⟩ := (sb.2 _ (Nat.ne_of_gt lte)).trans hT
    have new : ObjOk X.prog X.w (upd H s.heap.objs.size (.tup [.int (i : Nat), x])) h2 s.heap.objs.size (.tup [.int (i : Nat), x]) :=
      ⟨(by show 2 ≤ sizeLine; decide), [.int i tk, y], .cons ⟨_, rfl⟩ (.cons ru .nil), ⟨_, hT2, rfl, _, rfl⟩⟩
    have I1 : Inv X pins σ (upd H s.heap.objs.size (.tup [.int (i : Nat), x])) { s with heap := h2, toks := tk + 1 } :=
      I.turnedNew (ch := [e, it]) (fun b ob hb q => (sb.2 b fun z => hb (by simp [z])).trans (hk b ob (fun z => hb (by simp [z])) (fun z => hb (by simp [z])) q)) hf (Nat.le_refl _) new
    refine ⟨.ref s.heap.objs.size, _, I1, rfl, ⟨_, x, rfl, I.hok.fresh (Nat.le_refl _), rfl, fun zs hz => by rw [I.tuple_inj hz hq]; exact hx⟩, ⟨⟨y, ?_⟩, st'.1.at fun ob q => (sb.2 it (Ne.symm hne)).trans q, hne⟩, fun b hb => ?_⟩
    · have e1 : ((i + 1 : Nat) : Int) = (i : Int) + 1 := Int.natCast_add i 1
      rw [e1]
      exact he2
    · have lb : b < s.heap.objs.size := by
        have z : b = e ∨ b = it := by simpa using hb
        rcases z with q | q <;> rw [q] <;> assumption
      rw [upd_ne (Nat.ne_of_lt lb)]
      exact (hf b hb).1
  done := by
    intro X hP hw hK hc i pins s σ H E I hf st hg
    subst hP hw hK
    obtain ⟨⟨old, he⟩, hit, hne⟩ := st
    obtain ⟨xs, hq, hx⟩ := hg
    obtain ⟨us, rv, p, hz⟩ := I.tuple hq
    obtain ⟨g0, g1, g2, g3, g4, g5⟩ := hf it (by simp)
    have ll := rv.length
    exact enum_end_tuple (I.ok.hd hc) he hit (show s.heap.IsTuple a us.toArray from p) (by simp; omega) fun h' eb => ⟨rfl, I.turned (t' := s.toks) (fun b ob hb q => eb b ob hb q) g0 g1 g3 g4 g5⟩
  self := fun A i s Q E st k => let ⟨⟨_, he⟩, _⟩ := st; wpAny_pyIter_enum he k
def iEnS (K : PySem.W.Frag) (ta : TA) : TI := fun σ H R => ta σ H fun vs H1 => ∃ a, vs = [.ref a] ∧ ((∃ xs, SqL K H1 a xs ∧ R (Ite K a) H1) ∨ ∃ xs, SqT K H1 a xs ∧ R (IteT K a) H1)
theorem pi_enumS {X : Cx} {e : Expr} {ta : TA} {p pos tpos : Pos} {elts : List Expr} {kk : Nat} (hg : Gl X "enumerate") (hm : X.mg "enumerate" = none) (ha : PA X [e] ta) (hs : starEach [e] X.env = [(false, eval e X.env)] := by rfl) :
    PI X (.Tuple elts kk tpos) (.Call (.Name "enumerate" p) [e] [] pos) (iEnS X.K ta) := by
  refine ⟨fun pins s σ H R I hh => ?_⟩
  refine Call_ (ld_blt I hg hm boot_enumerate (PyProof.Rows.callWith_type1 (thn (ha.run pos pins s σ H _ I hh) fun us s1 ⟨vs, H1, I1, r1, q1⟩ => ?_) hs rfl))
  obtain ⟨a, ex, q⟩ := q1
  subst ex
  cases r1 with
  | cons r rr =>
    cases rr
    cases r
    have fp : ∀ {h' : Heap} (b : Addr), b ∈ [s1.heap.objs.size + 1, s1.heap.objs.size] → s1.heap.objs.size ≤ b := fun b hb => by
      have z : b = s1.heap.objs.size + 1 ∨ b = s1.heap.objs.size := by simpa using hb
      rcases z with q | q <;> rw [q]
      · exact Nat.le_succ _
      · exact Nat.le_refl _
    rcases q with ⟨xs, hq, q⟩ | ⟨xs, hq, q⟩
    · obtain ⟨us, rv, p', hz⟩ := I1.list hq
      refine call_enumerate_list p'.isList fun h' he hit hsz hk => wpAny_pyIter_enum he ?_
      exact ⟨s1.heap.objs.size + 1, [s1.heap.objs.size + 1, s1.heap.objs.size], _, _, H1, rfl, I1.kept (t' := s1.toks) hk, turn_enum a (s1.heap.objs.size + 1) s1.heap.objs.size, ⟨⟨.none, he⟩, hit, Nat.succ_ne_self _⟩, fun b hb => I1.fpOk (fp (h' := h') b hb) (I1.hok.fresh (fp (h' := h') b hb)), q⟩
    · obtain ⟨us, rv, p', hz⟩ := I1.tuple hq
      refine enum_call_tuple (show s1.heap.IsTuple a us.toArray from p') fun h' he hit hk => wpAny_pyIter_enum he ?_
      exact ⟨s1.heap.objs.size + 1, [s1.heap.objs.size + 1, s1.heap.objs.size], _, _, H1, rfl, I1.kept (t' := s1.toks) hk, turn_enumT a (s1.heap.objs.size + 1) s1.heap.objs.size, ⟨⟨.none, he⟩, hit, Nat.succ_ne_self _⟩, fun b hb => I1.fpOk (fp (h' := h') b hb) (I1.hok.fresh (fp (h' := h') b hb)), q⟩
end
section
open PySem PySem.Spec L2
variable {wW : World}
variable {X : Cx} {E : XK} {H0 : Hp} {ga : En → M (List D)} {a : Expr} {p pos : Pos}
def iEnumS (g : En → M (List D)) : En → M (List D) := fun ρ => (g ρ).bind fun ds => match ds with
  | [.lst xs] => (line xs.length).bind fun _ => M.pure (numb 0 xs)
  | [.tup xs] => (line xs.length).bind fun _ => M.pure (numb 0 xs)
  | _ => M.bad
theorem iteT_ok {K : PySem.W.Frag} {G : Hp} {μ : Mu} {a : Addr} {vs : List V} {ds : List D} (hl : SqT K G a vs) (r : RepL K G μ vs ds) (hz : ds.length ≤ sizeLine) : ItR wW K G μ (IteT K a) (numb 0 ds) := by
  refine ⟨by rw [numb_len]; exact hz, fun H1 G1 μ1 st1 w sg sm => ⟨fun i hi => ?_, fun i hi => ?_⟩⟩
  · rw [numb_len] at hi
    have h1 : SqT K H1 a vs := (sg.trans w.imm).sqT hl
    obtain ⟨v, hv, rv⟩ := r.get (List.getElem?_eq_getElem hi)
    refine ⟨⟨vs, v, h1, hv⟩, fun x H2 ⟨T, y, ex, hT, eH, hy⟩ => ?_⟩
    subst ex eH
    have ey : y = v := Option.some.inj ((hy vs h1).symm.trans hv)
    subst ey
    obtain ⟨w2, s2⟩ := w.new (o := .tup [.int (i : Nat), y]) hT
    refine ⟨_, w2, s2, _, by rw [numb_get, List.getElem?_eq_getElem hi]; rfl, ?_⟩
    rw [Nat.zero_add]
    exact .tup (.inl (.inl upd_same)) (.cons (.int _) (.cons ((rv.mono sg sm).mono s2.g s2.m) .nil))
  · rw [numb_len] at hi
    exact ⟨vs, (sg.trans w.imm).sqT hl, by rw [RepL.length r]; exact hi⟩
theorem ji_enumS {elts : List Expr} {kk : Nat} {tpos : Pos} (hg : Gl X "enumerate") (hm : X.mg "enumerate" = none) (ha : JA X E H0 ga [a]) (hs : starEach [a] X.env = [(false, eval a X.env)] := by rfl) :
    JI X E H0 (.Tuple elts kk tpos) (iEnumS ga) (.Call (.Name "enumerate" p) [a] [] pos) := by
  refine PI.imp (pi_enumS hg hm ha hs) fun σ H R ⟨G, μ, st, ρ, w, er, q⟩ => ?_
  refine ⟨G, μ, st, ρ, w, er, Post.raw q fun ds st1 vs H1 G1 μ1 w1 s1 r1 q1 => ?_⟩
  cases r1 with
  | nil => exact q1.elim
  | cons h t =>
    cases t with
    | cons _ _ => cases h <;> exact q1.elim
    | nil =>
      cases h with
      | lst h1 rr =>
        obtain ⟨c, q1⟩ := Post.line (X := X) q1
        exact ⟨_, rfl, .inl ⟨_, w1.imm.sqL (.inl (.inl h1)), q1 _ _ _ _ w1 s1 (ite_ok (.inl (.inl h1)) rr c)⟩⟩
      | tup h1 rr =>
        obtain ⟨c, q1⟩ := Post.line (X := X) q1
        exact ⟨_, rfl, .inr ⟨_, w1.imm.sqT h1, q1 _ _ _ _ w1 s1 (iteT_ok h1 rr c)⟩⟩
      | _ => exact q1.elim
end
end PL

set_option linter.all false
set_option maxRecDepth 100000
set_option maxHeartbeats 4000000
/-! PL25: lists from split that stay in their maker's hands; pairs whose first name holds an own list; x[i] = v of own lists; calls with keywords. -/
namespace PL
open PySem PySem.Spec L2
variable {wW : World}
section
variable {X : Cx} {E : XK} {H0 : Hp} {e a b c o ix : Expr} {f g h : En → M D} {fl gl : En → M (List D)} {pos p p0 apos : Pos} {Φ : Ent} {x y : Str} {ga : En → M (List D)} {i j : Nat}
/-- the pieces of a text, as a new list -/
def fSplit (f g : En → M D) : En → M (List D) := fun ρ => (f ρ).bind fun d => match d with
  | .str a => (g ρ).bind fun y => (match y with
    | .str b => guardM (!(b.length == 0) && decide (a.length + 2 ≤ sizeLine)) (M.pure ((Txt.split a b).map D.str))
    | _ => M.bad)
  | _ => M.bad
theorem jf_split (hf : JB X E H0 f a) (hg : JB X E H0 g b) (hs : starEach [b] X.env = [(false, eval b X.env)] := by rfl) (hbase : attributeBase a "split" X.env (eval a X.env) = eval a X.env := by rfl) (hline : (apos.endLine == pos.line) = true := by rfl) :
    JF X E H0 (fSplit f g) (.Call (.Attribute a "split" apos) [b] [] pos) := PE.imp (pe_split hf hg hs hbase hline) fun σ H Q ⟨G, μ, st, ρ, w, er, k⟩ => by
  refine ⟨G, μ, st, ρ, w, er, Post.bind k fun dx st1 x H1 G1 μ1 w1 s1 r1 k1 => ?_⟩
  cases dx with
  | str a =>
    have ex := r1.weak.str
    subst ex
    refine ⟨⟨a, rfl⟩, G1, μ1, st1, ρ, w1, er.step s1, Post.bind k1 fun dy st2 y H2 G2 μ2 w2 s2 r2 k2 => ?_⟩
    cases dy with
    | str z =>
      cases r2.weak.str
      obtain ⟨cc, k3⟩ := Post.guard k2
      rw [Bool.and_eq_true] at cc
      refine ⟨a, z, rfl, rfl, by simpa using cc.1, of_decide_eq_true cc.2, fun l hl => ?_⟩
      obtain ⟨w3, s3⟩ := w2.lay (o := .lst ((Txt.split a z).map V.str)) hl
      refine k3 _ _ _ _ w3 s3 ⟨l, _, rfl, upd_same, rep_strs _, none_before w2.imm.th hl, fun k e => ?_, hl⟩
      obtain ⟨b, h1, _, h3⟩ := w2.obj k _ (List.getElem?_eq_getElem (w2.dom k l e))
      rw [e] at h1; cases h1
      obtain ⟨u, hu⟩ := h3.there
      rw [hl] at hu; cases hu
    | _ => exact k2.elim
  | _ => exact k1.elim
/-! ### pairs -/
def put1 (i : Nat) (x : Slot) (ρ : En) : M En := opt (if i < ρ.length then some (ρ.set i x) else none)
def sParF (i j : Nat) (f : En → M (List D)) (g : En → M D) : En → M (Fl × En) := fun ρ => (f ρ).bind fun ds => (g ρ).bind fun e => (put1 i (.own ds) ρ).bind fun r => put j (.val e) r
def sParB (i j : Nat) (f g : En → M (List D)) : En → M (Fl × En) := fun ρ => (f ρ).bind fun ds => (g ρ).bind fun e => (put1 i (.own ds) ρ).bind fun r => put j (.own e) r
theorem own_in {ρ : En} {σ : L2.St} {G0 H G : Hp} {μ0 μ : Mu} {H1 : Hp} {v : V} {ds : List D} (er : ER X.K H1 G0 μ0 Φ.H ρ σ) (s : Stp H1 G0 μ0 H G μ) (s0 : Stp Φ.H Φ.G Φ.μ H1 G0 μ0) (r : Fresh X.K H1 H G μ v ds) (hi : i < ρ.length) : ER X.K H G μ Φ.H (ρ.set i (.own ds)) (σ.set i (some v)) := by
  obtain ⟨a, vs, rfl, h1, h2, h3, h4, h5⟩ := r
  refine (er.step s).setOwn hi h1 h2 h3 h4 (none_before s0.th h5) fun j es q z => ?_
  obtain ⟨b, ws, z1, z2, _⟩ := er.own j es q
  rw [z] at z1; cases z1
  rw [h5] at z2; cases z2
theorem PostS.put1 {i : Nat} {x : Slot} {ρ : En} {k : En → M (Fl × En)} {st : Sto} {Dn : Ends} (q : PostS X E Φ Dn (((PL.put1 i x ρ).bind k) st)) : i < ρ.length ∧ PostS X E Φ Dn (k (ρ.set i x) st) := by
  obtain ⟨r, e, q⟩ := PostS.opt q
  by_cases h : i < ρ.length
  · rw [if_pos h] at e; cases e; exact ⟨h, q⟩
  · rw [if_neg h] at e; cases e
section
variable {px py pt' : Pos} {kt k2 : Nat} {pt2 : Pos}
theorem js_parF (hc : X.calm = true) (hN : X.N.Nodup) (hi : X.N[i]? = some x) (hj : X.N[j]? = some y) (ha : JF X E Φ.H fl a) (hb : JE X E Φ.H g b) (hij : i ≠ j := by decide)
    (hx : X.env.scope.names.lookup x = some .local := by rfl) (hy : X.env.scope.names.lookup y = some .local := by rfl)
    (hw : swappedStores [.Tuple [.Name x px, .Name y py] kt pt'] (.Tuple [a, b] k2 pt2) X.env = pure (some [x, y]) := by rfl)
    (hs : swapsWithSole [.Tuple [.Name x px, .Name y py] kt pt'] (.Tuple [a, b] k2 pt2) pos.line X.env = pure false := by rfl)
    (h1 : starEach [a, b] X.env = (false, eval a X.env) :: starEach [b] X.env := by rfl) (h2 : starEach [b] X.env = (false, eval b X.env) :: starEach [] X.env := by rfl) :
    JS X E Φ (sParF i j fl g) (.Assign [.Tuple [.Name x px, .Name y py] kt pt'] (.Tuple [a, b] k2 pt2) pos) := by
  refine PS.imp (ps_par hc hN hi hj hij hx hy (pa_cons ha (pa_cons hb pa_nil h2) h1) hw hs) fun Dn σ H ⟨G, μ, st, ρ, w, er, s, q⟩ => ?_
  refine ⟨G, μ, st, ρ, w, er, q.bind s fun d st1 v H1 G1 μ1 w1 s1 t1 r1 q1 => ⟨G1, μ1, st1, ρ, w1, er.step s1, q1.bind t1 fun e st2 u H2 G2 μ2 w2 s2 t2 r2 q2 => ?_⟩⟩
  obtain ⟨l1, q3⟩ := q2.put1
  exact ⟨v, u, rfl, put_val q3 w2 ((own_in er s1 s r1 l1).step s2) t2 r2⟩
theorem js_parB (hc : X.calm = true) (hN : X.N.Nodup) (hi : X.N[i]? = some x) (hj : X.N[j]? = some y) (ha : JF X E Φ.H fl a) (hb : JF X E Φ.H gl b) (hij : i ≠ j := by decide)
    (hx : X.env.scope.names.lookup x = some .local := by rfl) (hy : X.env.scope.names.lookup y = some .local := by rfl)
    (hw : swappedStores [.Tuple [.Name x px, .Name y py] kt pt'] (.Tuple [a, b] k2 pt2) X.env = pure (some [x, y]) := by rfl)
    (hs : swapsWithSole [.Tuple [.Name x px, .Name y py] kt pt'] (.Tuple [a, b] k2 pt2) pos.line X.env = pure false := by rfl)
    (h1 : starEach [a, b] X.env = (false, eval a X.env) :: starEach [b] X.env := by rfl) (h2 : starEach [b] X.env = (false, eval b X.env) :: starEach [] X.env := by rfl) :
    JS X E Φ (sParB i j fl gl) (.Assign [.Tuple [.Name x px, .Name y py] kt pt'] (.Tuple [a, b] k2 pt2) pos) := by
  refine PS.imp (ps_par hc hN hi hj hij hx hy (pa_cons ha (pa_cons hb pa_nil h2) h1) hw hs) fun Dn σ H ⟨G, μ, st, ρ, w, er, s, q⟩ => ?_
  refine ⟨G, μ, st, ρ, w, er, q.bind s fun d st1 v H1 G1 μ1 w1 s1 t1 r1 q1 => ⟨G1, μ1, st1, ρ, w1, er.step s1, q1.bind t1 fun e st2 u H2 G2 μ2 w2 s2 t2 r2 q2 => ?_⟩⟩
  obtain ⟨l1, q3⟩ := q2.put1
  exact ⟨v, u, rfl, put_own q3 w2 (own_in er s1 s r1 l1) s2 t1 r2⟩
end
/-! ### x[i] = v -/
theorem js_oset {x : Str} {p1 ps po : Pos} (hN : X.N[j]? = some x) (hv : Vis X.env.scope x) (hi : JE X E Φ.H g ix) (he : JE X E Φ.H f e) (hd : (x == ("__debug__" : Str)) = false := by decide) (hcd : (x == ("__classdict__" : Str)) = false := by decide)
    (ha : ∀ v, assign (.Subscript (.Name x p1) ix po) X.env v = (do
      let ov ← holding [v] (eval (.Name x p1) X.env)
      let iv ← holding [v, ov] (eval ix X.env)
      standAt po
      holding [v, ov, iv] (setItem ov iv v)
      release [v, ov, iv] []) := by intro _; rfl)
    (hs : swapsWithSole [.Subscript (.Name x p1) ix po] e ps.line X.env = pure false := by rfl) (hw : swappedStores [.Subscript (.Name x p1) ix po] e X.env = pure none := by rfl)
    (h1 : (assignEach [.Subscript (.Name x p1) ix po] X.env).map (·.2) = [assign (.Subscript (.Name x p1) ix po) X.env] := by rfl) :
    JS X E Φ (sOset j g f) (.Assign [.Subscript (.Name x p1) ix po] e ps) := by
  refine PS.imp (ps_asg he (pg_sub (pe_var hN hv hd hcd) hi set_list ha) hs hw h1) fun Dn σ H ⟨G, μ, st, ρ, w, er, s, q⟩ => ?_
  refine ⟨G, μ, st, ρ, w, er, q.bind s fun d st1 v H1 G1 μ1 w1 s1 t1 r1 q1 => ?_⟩
  obtain ⟨ds, hj, q1⟩ := PostS.opt q1
  have hj' : ρ[j]? = some (.own ds) := by
    cases e0 : ρ[j]? with
    | none => rw [e0] at hj; cases hj
    | some s0 =>
      rw [e0] at hj
      cases s0 with
      | own es => cases hj; rfl
      | _ => cases hj
  obtain ⟨a0, vs0, k1, _, _, _, _, _⟩ := (er.step s1).own j ds hj'
  refine ⟨_, k1, G1, μ1, st1, ρ, w1, er.step s1, q1.bind t1 fun dz st2 z H2 G2 μ2 w2 s2 t2 r2 q2 => ?_⟩
  obtain ⟨k, hk, q2⟩ := PostS.opt q2
  cases r2 with
  | int z =>
    have q3 : PostS X E Φ Dn (((opt (ixN ds.length z)).bind fun m => M.pure (ds.set m d)).bind (fun es => put j (Slot.own es) ρ) st2) := by
      cases hk; exact q2
    rw [M.bind_assoc] at q3
    obtain ⟨m, hm, q2⟩ := PostS.opt q3
    obtain ⟨l, vs, g1, g2, g3, fin⟩ := upd_end w2 ((er.step s1).step s2) t2 hj' q2
    rw [k1] at g1; cases g1
    exact ⟨_, vs, _, m, rfl, rfl, g2, by rw [RepL.length g3]; exact hm, fin _ (RepL.set (r1.mono s2.g s2.m) m g3)⟩
  | _ => cases hk
end
/-! ### keywords -/
/-- positions and keywords, as many as there are -/
def kwG {α : Type} (n m : Nat) (us ws : List α) : List α := if us.length = n ∧ ws.length = m then us ++ ws else []
structure OwnK (P : Program) (w : World) (K : PySem.W.Frag) (mg : Str → Option Value) (base : Heap) (k : Nat) (x : Str) (ps ks : List Str) (n : Nat) (sem : List D → M D) : Prop where
  ex : ∃ fa fd, FnOk P w K mg base (L2.CX P w) k fa fd ps (SpOf w K mg ps.length sem) ∧ mg x = some (.ref fa) ∧ PySem.W.keepIn K (.ref fa) = true ∧ KBinds K fd ps ks (kwG n ks.length) (kwG n ks.length)
structure FnK (K : PySem.W.Frag) (mg : Str → Option Value) (x : Str) (st : Stmt) (ps ks : List Str) (n : Nat) : Prop where
  ex : ∃ fa fd, Fun K x x st fa fd ∧ mg x = some (.ref fa) ∧ KBinds K fd ps ks (kwG n ks.length) (kwG n ks.length)
theorem own_defK {P : Program} {w : World} {K : PySem.W.Frag} {mg : Str → Option Value} {base : Heap} {k n : Nat} {x : Str} {st : Stmt} {N ps ks : List Str} {f : En → M (Fl × En)} (F : FnK K mg x st ps ks n) (S : FnScope N ps (defScope st))
    (body : ∀ (fa : Addr) (cdv : Value) (A : Around) (outer : List Env) (s : Shared) (H G : Hp) (μ : Mu) (E : XK), Room k (A.deeper (PyProof.Rows.envOfC x (defScope st) s.heap.objs.size fa cdv)) →
      JSs (cxOf (L2.CX P w) P w K mg base N x (defScope st) fa cdv A outer s H E) E ⟨H, G, μ⟩ f (defBody st)) :
    OwnK P w K mg base (k + 1) x ps ks n (runB N.length f) := by
  obtain ⟨fa, fd, F, m, b⟩ := F.ex
  exact ⟨fa, fd, def_ok F S (body fa), m, F.kp, b⟩
theorem vals_len {vs : List V} {us : List Value} (r : Vals vs us) : us.length = vs.length := by
  induction r with
  | nil => rfl
  | cons _ _ ih => rw [List.length_cons, List.length_cons, ih]
theorem vals_app {vs zs : List V} {us ws : List Value} (r : Vals vs us) (q : Vals zs ws) : Vals (vs ++ zs) (us ++ ws) := by
  induction r with
  | nil => exact q
  | cons h _ ih => exact .cons h ih
theorem kbinds_of {K : PySem.W.Frag} {fd : FuncData} {ps ks : List Str} {n : Nat} (hp : ps ≠ []) (h : ∀ us ws : List Value, us.length = n → ws.length = ks.length → bindArgs fd ⟨us, ks.zip ws⟩ = pure (ps.zip (us ++ ws))) : KBinds K fd ps ks (kwG n ks.length) (kwG n ks.length) where
  to := fun s us ws _ hl => by
    unfold kwG at hl ⊢
    by_cases c : us.length = n ∧ ws.length = ks.length
    · rw [if_pos c]
      exact .of_eq (h us ws c.1 c.2)
    · rw [if_neg c] at hl
      exact absurd (List.eq_nil_of_length_eq_zero hl.symm) hp
  rel := fun {vs us zs ws} r q => by
    unfold kwG
    rw [vals_len r, vals_len q]
    split
    · exact vals_app r q
    · exact .nil
/-- the values of keywords, in their order -/
def JK (X : Cx) (E : XK) (H0 : Hp) (f : En → M (List D)) (kws : List Keyword) : Prop := PK X kws (Se X E H0 (rRepL X.K) f)
section
variable {X : Cx} {E : XK} {H0 : Hp} {e : Expr} {es : List Expr} {kws : List Keyword} {f : En → M D} {ga gb : En → M (List D)} {pos p kpos : Pos} {x nm : Str}
theorem PK_imp {t t' : TA} (h : PK X kws t) (q : ∀ σ H Q, t' σ H Q → t σ H Q) : PK X kws t' := ⟨fun pos pins s σ H Q I x => h.run pos pins s σ H Q I (q _ _ _ x)⟩
theorem jk_nil : JK X E H0 aNil [] := PK_imp pk_nil fun σ H Q ⟨G, μ, st, ρ, w, er, p⟩ => p [] H G μ w .refl .nil
theorem jk_cons (ha : JE X E H0 f e) (hr : JK X E H0 gb kws) : JK X E H0 (aCons f gb) (⟨some nm, e, kpos⟩ :: kws) := by
  refine PK_imp (pk_cons ha hr) fun σ H Q ⟨G, μ, st, ρ, w, er, q⟩ => ?_
  refine ⟨G, μ, st, ρ, w, er, Post.bind q fun dx st1 x H1 G1 μ1 w1 s1 r1 q1 => ?_⟩
  refine ⟨G1, μ1, st1, ρ, w1, er.step s1, Post.bind q1 fun dy st2 y H2 G2 μ2 w2 s2 r2 q2 => ?_⟩
  exact q2 _ H2 G2 μ2 w2 .refl (.cons (Rep.mono s2.g s2.m r1) r2)
/-- a call with keywords -/
def eCallK (n m : Nat) (sem : List D → M D) (g h : En → M (List D)) : En → M D := fun ρ => (g ρ).bind fun ds => (h ρ).bind fun es => if ds.length = n ∧ es.length = m then sem (ds ++ es) else M.bad
theorem jcallK {k n : Nat} {ps ks : List Str} {sem : List D → M D} (C : OwnK X.prog X.w X.K X.mg X.base k x ps ks n sem) (hr : Room k X.A) (hx : Passes (L2.CX X.prog X.w) X E) (ha : JA X E H0 ga (e :: es)) (hkw : JK X E H0 gb kws) (hg : Gl X x := by rfl)
    (hall : (backToKw pos (keywordEach kws X.env)).all (·.1.isSome) = true := by rfl) (hks : (backToKw pos (keywordEach kws X.env)).filterMap (·.1) = ks := by rfl) (hdb : (x == ("__debug__" : Str)) = false := by decide)
    (he : starEach (e :: es) X.env = (false, eval e X.env) :: starEach es X.env := by rfl) (hpl : ((backTo pos (starEach (e :: es) X.env)).any (·.1) || (backToKw pos (keywordEach kws X.env)).any (·.1.isNone)) = false := by rfl)
    (hn : n + ks.length = ps.length := by rfl) : JE X E H0 (eCallK n ks.length sem ga gb) (.Call (.Name x p) (e :: es) kws pos) := by
  obtain ⟨fa, fd, F, m, kp, b⟩ := C.ex
  refine PE.imp (pe_callK F hr hg m kp b hx ha hkw hall hks hdb he hpl) fun σ H Q ⟨G, μ, st, ρ, w, er, q⟩ => ?_
  refine ⟨G, μ, st, ρ, w, er, Post.bind q fun ds st1 vs H1 G1 μ1 w1 s1 r1 q1 => ?_⟩
  refine ⟨G1, μ1, st1, ρ, w1, er.step s1, Post.bind q1 fun es st2 zs H2 G2 μ2 w2 s2 r2 q2 => ?_⟩
  by_cases c : ds.length = n ∧ es.length = ks.length
  · rw [if_pos c] at q2
    have l1 := RepL.length r1
    have l2 := RepL.length r2
    unfold kwG
    rw [if_pos ⟨by rw [l1]; exact c.1, by rw [l2]; exact c.2⟩]
    exact ⟨G2, μ2, st2, ds ++ es, w2, (r1.mono s2.g s2.m).append r2, by rw [List.length_append, c.1, c.2]; exact hn, q2⟩
  · rw [if_neg c] at q2
    exact q2.elim
end
end PL

set_option linter.all false
set_option maxRecDepth 100000
set_option maxHeartbeats 4000000
/-! PX: the same walk where an exception may leave: Z is what is wanted of it. -/
namespace PL
open PySem PySem.Spec L2
structure wpX (Z : Exn → Sto → Prop) {α : Type} (m : M α) (Q : α → Sto → Prop) (st : Sto) : Prop where
  run : match m st with
  | .ok a s => Q a s
  | .err x s => Z x s
  | .bad => False
section
variable {α β : Type} {Z : Exn → Sto → Prop} {m : M α} {Q Q' : α → Sto → Prop} {st : Sto} {f : α → M β} {P : β → Sto → Prop}
theorem wpX_is : wpX Z m Q st = (match m st with
  | .ok a s => Q a s
  | .err x s => Z x s
  | .bad => False) := propext ⟨fun h => h.run, fun h => ⟨h⟩⟩
theorem wpX_pure {a : α} : wpX Z (M.pure a) Q st = Q a st := wpX_is
theorem wpX_bad : wpX Z (M.bad : M α) Q st = False := wpX_is
theorem wpX_bind : wpX Z (m.bind f) P st = wpX Z m (fun a s => wpX Z (f a) P s) st := by
  rw [wpX_is, wpX_is]
  unfold M.bind
  cases m st <;> first | rfl | exact wpX_is.symm
theorem wpX_mono (h : wpX Z m Q st) (k : ∀ a s, Q a s → Q' a s) : wpX Z m Q' st := by
  rw [wpX_is] at h ⊢
  cases e : m st with
  | ok a s => rw [e] at h; exact k a s h
  | err x s => rw [e] at h; exact h
  | bad => rw [e] at h; exact h
theorem wp.x (h : wp m Q st) : wpX Z m Q st := by
  rw [wpX_is]
  rw [wp_is] at h
  cases e : m st with
  | ok a s => rw [e] at h; exact h
  | err x s => rw [e] at h; exact h.elim
  | bad => rw [e] at h; exact h.elim
theorem wpX_guard {c : Bool} : wpX Z (guardM c m) Q st = (c = true ∧ wpX Z m Q st) := by
  unfold guardM
  by_cases h : c = true
  · rw [if_pos h]; simp [h]
  · rw [if_neg h]; simp [h, wpX_bad]
theorem wpX_opt {o : Option α} : wpX Z (opt o) Q st = ∃ a, o = some a ∧ Q a st := by
  cases o with
  | none => simp [opt, wpX_bad]
  | some a => simp [opt, wpX_pure]
theorem wpX_some {a : α} : wpX Z (opt (some a)) Q st = Q a st := wpX_is
theorem wpX_line {n : Nat} {R : Unit → Sto → Prop} : wpX Z (line n) R st = (n ≤ sizeLine ∧ R () st) := by
  rw [wpX_is]
  unfold line
  by_cases h : n ≤ sizeLine
  · rw [if_pos h]; simp [h]
  · rw [if_neg h]; simp [h]
theorem wpX_put {i : Nat} {x : Slot} {ρ : En} {R : Fl × En → Sto → Prop} : wpX Z (put i x ρ) R st = (i < ρ.length ∧ R (.nx, ρ.set i x) st) := by
  unfold put
  by_cases h : i < ρ.length
  · rw [if_pos h, wpX_pure]; simp [h]
  · rw [if_neg h, wpX_bad]; simp [h]
theorem wpX_call {n : Nat} {sem : List D → M D} {ds : List D} {R : D → Sto → Prop} (hl : ds.length = n) (h : wpX Z (sem ds) R st) : wpX Z (if ds.length = n then sem ds else M.bad) R st := by rw [if_pos hl]; exact h
end
def SeqX (Z : Exn → Sto → Prop) (g : En → M (Fl × En)) (Q : Fl × En → Sto → Prop) : Fl × En → Sto → Prop := fun r s => match r.1 with
  | .nx => wpX Z (g r.2) Q s
  | _ => Q r s
section
variable {Z : Exn → Sto → Prop} {Q : Fl × En → Sto → Prop} {R : D → Sto → Prop} {T : Bool → Sto → Prop} {A : List D → Sto → Prop} {st : Sto} {ρ : En} {f g h : En → M D} {s1 s2 : En → M (Fl × En)} {t u : En → M Bool} {ga : En → M (List D)} {P1 P2 : Prop}
theorem kx_seq (k : wpX Z (s2 ρ) Q st) : SeqX Z s2 Q (.nx, ρ) st := k
theorem kx_seqR {d : D} (k : Q (.ret d, ρ) st) : SeqX Z s2 Q (.ret d, ρ) st := k
theorem kx_seqB (k : Q (.brk, ρ) st) : SeqX Z s2 Q (.brk, ρ) st := k
/-! ### bodies -/
theorem x_run {n : Nat} {ds : List D} (k : wpX Z (s1 (ds.map Slot.val ++ List.replicate (n - ds.length) Slot.no)) (RunK R) st) : wpX Z (runB n s1 ds) R st := by
  unfold runB
  rw [wpX_bind]
  refine wpX_mono k fun r s k => ?_
  obtain ⟨fl, ρ'⟩ := r
  cases fl <;> (first | exact k | exact ⟨k⟩ | (simp only [wpX_pure, wpX_some, wpX_line, wpX_bind]; exact k) | exact False.elim k | exact k.run.elim)
theorem x_run' {n : Nat} {ds : List D} (ρ : En) (e : ds.map Slot.val ++ List.replicate (n - ds.length) Slot.no = ρ) (k : wpX Z (s1 ρ) (RunK R) st) : wpX Z (runB n s1 ds) R st := x_run (by rw [e]; exact k)
theorem x_seq (k : wpX Z (s1 ρ) (SeqX Z s2 Q) st) : wpX Z (sSeq s1 s2 ρ) Q st := by
  unfold sSeq
  rw [wpX_bind]
  refine wpX_mono k fun r s k => ?_
  obtain ⟨fl, ρ'⟩ := r
  cases fl <;> (first | exact k | exact ⟨k⟩ | (simp only [wpX_pure, wpX_some, wpX_line, wpX_bind]; exact k) | exact False.elim k | exact k.run.elim)
theorem x_nil (k : Q (.nx, ρ) st) : wpX Z (sNil ρ) Q st := by first | exact k | exact ⟨k⟩
theorem x_pass (k : Q (.nx, ρ) st) : wpX Z (sPass ρ) Q st := by first | exact k | exact ⟨k⟩
theorem x_brk (k : Q (.brk, ρ) st) : wpX Z (sBrk ρ) Q st := by first | exact k | exact ⟨k⟩
theorem x_ct (k : Q (.ct, ρ) st) : wpX Z (sCt ρ) Q st := by first | exact k | exact ⟨k⟩
theorem x_ret (k : wpX Z (f ρ) (fun d s => Q (.ret d, ρ) s) st) : wpX Z (sRet f ρ) Q st := by unfold sRet; rw [wpX_bind]; (first | exact k | exact ⟨k⟩ | (simp only [wpX_pure, wpX_some, wpX_line, wpX_bind]; exact k) | exact False.elim k | exact k.run.elim)
theorem x_expr (k : wpX Z (f ρ) (fun d s => Q (.nx, ρ) s) st) : wpX Z (sExpr f ρ) Q st := by unfold sExpr; rw [wpX_bind]; (first | exact k | exact ⟨k⟩ | (simp only [wpX_pure, wpX_some, wpX_line, wpX_bind]; exact k) | exact False.elim k | exact k.run.elim)
theorem x_put {i : Nat} {x : Slot} (hi : i < ρ.length) (k : Q (.nx, ρ.set i x) st) : wpX Z (put i x ρ) Q st := by rw [wpX_put]; exact ⟨hi, k⟩
theorem x_set {i : Nat} (hi : i < ρ.length) (k : wpX Z (f ρ) (fun d s => Q (.nx, ρ.set i (.val d)) s) st) : wpX Z (sSet i f ρ) Q st := by
  unfold sSet; rw [wpX_bind]
  exact wpX_mono k fun d s k => x_put hi k
theorem x_own {i : Nat} (hi : i < ρ.length) (k : wpX Z (ga ρ) (fun d s => Q (.nx, ρ.set i (.own d)) s) st) : wpX Z (sOwn i ga ρ) Q st := by
  unfold sOwn; rw [wpX_bind]
  exact wpX_mono k fun d s k => x_put hi k
theorem x_frz {i : Nat} (k : wpX Z (s1 (frz1 i ρ)) Q st) : wpX Z (sFrz i s1 ρ) Q st := by first | exact k | exact ⟨k⟩
theorem x_if (k : wpX Z (t ρ) (fun b s => IfK (wpX Z (s1 ρ) Q s) (wpX Z (s2 ρ) Q s) b) st) : wpX Z (sIf t s1 s2 ρ) Q st := by
  unfold sIf; rw [wpX_bind]
  refine wpX_mono k fun b s k => ?_
  cases b with
  | true => (first | exact k.1 rfl | exact ⟨k.1 rfl⟩)
  | false => (first | exact k.2 rfl | exact ⟨k.2 rfl⟩)
theorem x_par {i j : Nat} (hi : i < ρ.length) (hj : j < ρ.length) (k : wpX Z (f ρ) (fun d s => wpX Z (g ρ) (fun e s => Q (.nx, (ρ.set i (.val d)).set j (.val e)) s) s) st) : wpX Z (sPar i j f g ρ) Q st := by
  unfold sPar; rw [wpX_bind]
  refine wpX_mono k fun d s k => ?_
  rw [wpX_bind]
  refine wpX_mono k fun e s k => ?_
  rw [wpX_bind]
  have : setAll [i, j] [d, e] ρ = some ((ρ.set i (.val d)).set j (.val e)) := by
    unfold setAll; rw [if_pos hi]; unfold setAll; rw [if_pos (by rw [List.length_set]; exact hj)]; rfl
  rw [this]; (first | exact k | exact ⟨k⟩ | (simp only [wpX_pure, wpX_some, wpX_line, wpX_bind]; exact k) | exact False.elim k | exact k.run.elim)
theorem x_parO {i j : Nat} (hi : i < ρ.length) (hj : j < ρ.length) (k : wpX Z (f ρ) (fun d s => wpX Z (ga ρ) (fun e s => Q (.nx, (ρ.set i (.val d)).set j (.own e)) s) s) st) : wpX Z (sParO i j f ga ρ) Q st := by
  unfold sParO; rw [wpX_bind]
  refine wpX_mono k fun d s k => ?_
  rw [wpX_bind]
  refine wpX_mono k fun e s k => ?_
  rw [wpX_bind]
  have : setAll [i] [d] ρ = some (ρ.set i (.val d)) := by unfold setAll; rw [if_pos hi]; rfl
  rw [this, wpX_some]
  exact x_put (by rw [List.length_set]; exact hj) k
theorem x_un {pt : Pt} (k : wpX Z (f ρ) (fun d s => ∃ r, pt.set d ρ = some r ∧ Q (.nx, r) s) st) : wpX Z (sUn pt f ρ) Q st := by
  unfold sUn; rw [wpX_bind]
  refine wpX_mono k fun d s ⟨r, e, k⟩ => ?_
  rw [wpX_bind, e]; (first | exact k | exact ⟨k⟩ | (simp only [wpX_pure, wpX_some, wpX_line, wpX_bind]; exact k) | exact False.elim k | exact k.run.elim)
theorem x_app {i : Nat} {ds : List D} (hi : ρ[i]? = some (.own ds)) (k : wpX Z (f ρ) (fun d s => ds.length + 1 ≤ sizeLine ∧ Q (.nx, ρ.set i (.own (ds ++ [d]))) s) st) : wpX Z (sApp i f ρ) Q st := by
  unfold sApp; rw [hi]
  show wpX Z ((f ρ).bind _) Q st
  rw [wpX_bind]
  refine wpX_mono k fun d s ⟨hl, k⟩ => ?_
  rw [wpX_bind, wpX_line]
  exact ⟨hl, x_put (List.getElem?_eq_some_iff.mp hi).1 k⟩
theorem x_ext {i : Nat} {ds : List D} (hi : ρ[i]? = some (.own ds)) (k : wpX Z (f ρ) (fun d s => ∃ es, d = .lst es ∧ ds.length + es.length ≤ sizeLine ∧ Q (.nx, ρ.set i (.own (ds ++ es))) s) st) : wpX Z (sExt i f ρ) Q st := by
  unfold sExt; rw [hi]
  show wpX Z ((f ρ).bind _) Q st
  rw [wpX_bind]
  refine wpX_mono k fun d s ⟨es, e, hl, k⟩ => ?_
  subst e
  show wpX Z ((line (ds.length + es.length)).bind fun _ => put i (.own (ds ++ es)) ρ) Q s
  rw [wpX_bind, wpX_line]
  exact ⟨hl, x_put (List.getElem?_eq_some_iff.mp hi).1 k⟩
/-! ### expressions -/
theorem x_var {i : Nat} {d : D} (hi : ρ[i]? = some (.val d)) (k : R d st) : wpX Z (eVar i ρ) R st := by unfold eVar; rw [hi]; (first | exact k | exact ⟨k⟩ | (simp only [wpX_pure, wpX_some, wpX_line, wpX_bind]; exact k) | exact False.elim k | exact k.run.elim)
theorem x_look {i : Nat} {ds : List D} (hi : ρ[i]? = some (.own ds)) (k : R (.lst ds) st) : wpX Z (eLook i ρ) R st := by unfold eLook; rw [hi]; (first | exact k | exact ⟨k⟩ | (simp only [wpX_pure, wpX_some, wpX_line, wpX_bind]; exact k) | exact False.elim k | exact k.run.elim)
theorem x_lookV {i : Nat} {d : D} (hi : ρ[i]? = some (.val d)) (k : R d st) : wpX Z (eLook i ρ) R st := by unfold eLook; rw [hi]; (first | exact k | exact ⟨k⟩ | (simp only [wpX_pure, wpX_some, wpX_line, wpX_bind]; exact k) | exact False.elim k | exact k.run.elim)
theorem x_c {d : D} (k : R d st) : wpX Z (eC d ρ) R st := by first | exact k | exact ⟨k⟩
theorem x_e1 {p : D → M D} (k : wpX Z (f ρ) (fun x s => wpX Z (p x) R s) st) : wpX Z (e1 p f ρ) R st := by unfold e1; rw [wpX_bind]; (first | exact k | exact ⟨k⟩ | (simp only [wpX_pure, wpX_some, wpX_line, wpX_bind]; exact k) | exact False.elim k | exact k.run.elim)
theorem x_e2 {p : D → D → M D} (k : wpX Z (f ρ) (fun x s => wpX Z (g ρ) (fun y s => wpX Z (p x y) R s) s) st) : wpX Z (e2 p f g ρ) R st := by
  unfold e2; rw [wpX_bind]
  refine wpX_mono k fun x s k => ?_
  rw [wpX_bind]; (first | exact k | exact ⟨k⟩ | (simp only [wpX_pure, wpX_some, wpX_line, wpX_bind]; exact k) | exact False.elim k | exact k.run.elim)
theorem x_aN (k : A [] st) : wpX Z (aNil ρ) A st := by first | exact k | exact ⟨k⟩
theorem x_aC (k : wpX Z (f ρ) (fun x s => wpX Z (ga ρ) (fun xs s => A (x :: xs) s) s) st) : wpX Z (aCons f ga ρ) A st := by
  unfold aCons; rw [wpX_bind]
  refine wpX_mono k fun x s k => ?_
  rw [wpX_bind]; (first | exact k | exact ⟨k⟩ | (simp only [wpX_pure, wpX_some, wpX_line, wpX_bind]; exact k) | exact False.elim k | exact k.run.elim)
theorem x_tup (k : wpX Z (ga ρ) (fun xs s => xs.length ≤ sizeLine ∧ R (.tup xs) s) st) : wpX Z (eTup ga ρ) R st := by
  unfold eTup; rw [wpX_bind]
  refine wpX_mono k fun x s k => ?_
  rw [wpX_bind, wpX_line]; (first | exact k | exact ⟨k⟩ | (simp only [wpX_pure, wpX_some, wpX_line, wpX_bind]; exact k) | exact False.elim k | exact k.run.elim)
theorem x_lst (k : wpX Z (ga ρ) (fun xs s => xs.length ≤ sizeLine ∧ R (.lst xs) s) st) : wpX Z (eLst ga ρ) R st := by
  unfold eLst; rw [wpX_bind]
  refine wpX_mono k fun x s k => ?_
  rw [wpX_bind, wpX_line]; (first | exact k | exact ⟨k⟩ | (simp only [wpX_pure, wpX_some, wpX_line, wpX_bind]; exact k) | exact False.elim k | exact k.run.elim)
theorem x_fLst (k : wpX Z (ga ρ) (fun xs s => xs.length ≤ sizeLine ∧ A xs s) st) : wpX Z (fLst ga ρ) A st := by
  unfold fLst; rw [wpX_bind]
  refine wpX_mono k fun x s k => ?_
  rw [wpX_bind, wpX_line]; (first | exact k | exact ⟨k⟩ | (simp only [wpX_pure, wpX_some, wpX_line, wpX_bind]; exact k) | exact False.elim k | exact k.run.elim)
theorem x_eL (k : wpX Z (ga ρ) (fun xs s => R (.lst xs) s) st) : wpX Z (eL ga ρ) R st := by unfold eL; rw [wpX_bind]; (first | exact k | exact ⟨k⟩ | (simp only [wpX_pure, wpX_some, wpX_line, wpX_bind]; exact k) | exact False.elim k | exact k.run.elim)
theorem x_call {n : Nat} {sem : List D → M D} (k : wpX Z (ga ρ) (fun ds s => ds.length = n ∧ wpX Z (sem ds) R s) st) : wpX Z (eCall n sem ga ρ) R st := by
  unfold eCall; rw [wpX_bind]
  refine wpX_mono k fun ds s ⟨hl, k⟩ => ?_
  exact wpX_call hl k
theorem x_tBl (k : wpX Z (f ρ) (BlK T) st) : wpX Z (tBl f ρ) T st := by
  unfold tBl; rw [wpX_bind]
  refine wpX_mono k fun d s k => ?_
  cases d <;> (first | exact k | exact ⟨k⟩ | (simp only [wpX_pure, wpX_some, wpX_line, wpX_bind]; exact k) | exact False.elim k | exact k.run.elim)
theorem x_tNt (k : wpX Z (t ρ) (fun b s => T (!b) s) st) : wpX Z (tNt t ρ) T st := by unfold tNt; rw [wpX_bind]; (first | exact k | exact ⟨k⟩ | (simp only [wpX_pure, wpX_some, wpX_line, wpX_bind]; exact k) | exact False.elim k | exact k.run.elim)
theorem x_tAn (k : wpX Z (t ρ) (fun b s => IfK (wpX Z (u ρ) T s) (T false s) b) st) : wpX Z (tAn t u ρ) T st := by
  unfold tAn; rw [wpX_bind]
  refine wpX_mono k fun b s k => ?_
  cases b with
  | true => (first | exact k.1 rfl | exact ⟨k.1 rfl⟩)
  | false => (first | exact k.2 rfl | exact ⟨k.2 rfl⟩)
theorem x_tOr (k : wpX Z (t ρ) (fun b s => IfK (T true s) (wpX Z (u ρ) T s) b) st) : wpX Z (tOor t u ρ) T st := by
  unfold tOor; rw [wpX_bind]
  refine wpX_mono k fun b s k => ?_
  cases b with
  | true => (first | exact k.1 rfl | exact ⟨k.1 rfl⟩)
  | false => (first | exact k.2 rfl | exact ⟨k.2 rfl⟩)
theorem x_vAnd (k : wpX Z (f ρ) (BlK fun b s => IfK (wpX Z (g ρ) R s) (R (.bl false) s) b) st) : wpX Z (vAnd f g ρ) R st := by
  unfold vAnd; rw [wpX_bind]
  refine wpX_mono k fun d s k => ?_
  cases d with
  | bl b => cases b with
    | true => (first | exact k.1 rfl | exact ⟨k.1 rfl⟩)
    | false => (first | exact k.2 rfl | exact ⟨k.2 rfl⟩)
  | _ => (first | exact k | exact ⟨k⟩ | (simp only [wpX_pure, wpX_some, wpX_line, wpX_bind]; exact k) | exact False.elim k | exact k.run.elim)
theorem x_vOr (k : wpX Z (f ρ) (BlK fun b s => IfK (R (.bl true) s) (wpX Z (g ρ) R s) b) st) : wpX Z (vOr f g ρ) R st := by
  unfold vOr; rw [wpX_bind]
  refine wpX_mono k fun d s k => ?_
  cases d with
  | bl b => cases b with
    | true => (first | exact k.1 rfl | exact ⟨k.1 rfl⟩)
    | false => (first | exact k.2 rfl | exact ⟨k.2 rfl⟩)
  | _ => (first | exact k | exact ⟨k⟩ | (simp only [wpX_pure, wpX_some, wpX_line, wpX_bind]; exact k) | exact False.elim k | exact k.run.elim)
theorem x_vNot (k : wpX Z (f ρ) (BlK fun b s => R (.bl (!b)) s) st) : wpX Z (vNot f ρ) R st := by
  unfold vNot; rw [wpX_bind]
  refine wpX_mono k fun d s k => ?_
  cases d <;> (first | exact k | exact ⟨k⟩ | (simp only [wpX_pure, wpX_some, wpX_line, wpX_bind]; exact k) | exact False.elim k | exact k.run.elim)
theorem x_eIf (k : wpX Z (t ρ) (fun b s => IfK (wpX Z (f ρ) R s) (wpX Z (g ρ) R s) b) st) : wpX Z (eIf t f g ρ) R st := by
  unfold eIf; rw [wpX_bind]
  refine wpX_mono k fun b s k => ?_
  cases b with
  | true => (first | exact k.1 rfl | exact ⟨k.1 rfl⟩)
  | false => (first | exact k.2 rfl | exact ⟨k.2 rfl⟩)
theorem x_eCh {p q : D → D → M D} (k : wpX Z (f ρ) (fun x s => wpX Z (g ρ) (fun y s => wpX Z (p x y) (BlK fun b s => IfK (wpX Z (h ρ) (fun z s => wpX Z (q y z) R s) s) (R (.bl false) s) b) s) s) st) : wpX Z (eCh p q f g h ρ) R st := by
  unfold eCh; rw [wpX_bind]
  refine wpX_mono k fun x s k => ?_
  rw [wpX_bind]
  refine wpX_mono k fun y s k => ?_
  rw [wpX_bind]
  refine wpX_mono k fun d s k => ?_
  cases d with
  | bl b => cases b with
    | true =>
      show wpX Z ((h ρ).bind fun u => q y u) R s
      rw [wpX_bind]; (first | exact k.1 rfl | exact ⟨k.1 rfl⟩)
    | false => (first | exact k.2 rfl | exact ⟨k.2 rfl⟩)
  | _ => (first | exact k | exact ⟨k⟩ | (simp only [wpX_pure, wpX_some, wpX_line, wpX_bind]; exact k) | exact False.elim k | exact k.run.elim)
theorem x_neg (k : wpX Z (f ρ) (IntK fun i s => R (.int (-i)) s) st) : wpX Z (eNeg f ρ) R st := by
  unfold eNeg; rw [wpX_bind]
  refine wpX_mono k fun d s k => ?_
  cases d <;> (first | exact k | exact ⟨k⟩ | (simp only [wpX_pure, wpX_some, wpX_line, wpX_bind]; exact k) | exact False.elim k | exact k.run.elim)
variable {lo hi : En → M (Option Int)} {O : Option Int → Sto → Prop}
theorem x_oNo (k : O none st) : wpX Z (oNo ρ) O st := by first | exact k | exact ⟨k⟩
theorem x_oSo (k : wpX Z (f ρ) (IntK fun i s => O (some i) s) st) : wpX Z (oSo f ρ) O st := by
  unfold oSo; rw [wpX_bind]
  refine wpX_mono k fun d s k => ?_
  cases d <;> (first | exact k | exact ⟨k⟩ | (simp only [wpX_pure, wpX_some, wpX_line, wpX_bind]; exact k) | exact False.elim k | exact k.run.elim)
theorem x_sl (k : wpX Z (f ρ) (fun x s => wpX Z (lo ρ) (fun l s => wpX Z (hi ρ) (fun h s => wpX Z (slM x l h) R s) s) s) st) : wpX Z (eSl f lo hi ρ) R st := by
  unfold eSl; rw [wpX_bind]
  refine wpX_mono k fun x s k => ?_
  rw [wpX_bind]
  refine wpX_mono k fun x s k => ?_
  rw [wpX_bind]; (first | exact k | exact ⟨k⟩ | (simp only [wpX_pure, wpX_some, wpX_line, wpX_bind]; exact k) | exact False.elim k | exact k.run.elim)
theorem x_m1 {q : Str → D → M D} (k : wpX Z (f ρ) (StrK fun a s => wpX Z (g ρ) (fun y s => wpX Z (q a y) R s) s) st) : wpX Z (eM1 q f g ρ) R st := by
  unfold eM1; rw [wpX_bind]
  refine wpX_mono k fun d s k => ?_
  cases d with
  | str a =>
    show wpX Z ((g ρ).bind fun y => q a y) R s
    rw [wpX_bind]; (first | exact k | exact ⟨k⟩ | (simp only [wpX_pure, wpX_some, wpX_line, wpX_bind]; exact k) | exact False.elim k | exact k.run.elim)
  | _ => (first | exact k | exact ⟨k⟩ | (simp only [wpX_pure, wpX_some, wpX_line, wpX_bind]; exact k) | exact False.elim k | exact k.run.elim)
theorem x_iR1 {A : List D → Sto → Prop} (k : wpX Z (ga ρ) (fun ds s => ∃ n, ds = [.int n] ∧ wpX Z (rangeL 0 n) A s) st) : wpX Z (iRange1 ga ρ) A st := by
  unfold iRange1; rw [wpX_bind]
  refine wpX_mono k fun ds s ⟨n, e, k⟩ => ?_
  subst e; (first | exact k | exact ⟨k⟩ | (simp only [wpX_pure, wpX_some, wpX_line, wpX_bind]; exact k) | exact False.elim k | exact k.run.elim)
theorem x_iSeq {A : List D → Sto → Prop} (k : wpX Z (f ρ) (fun d s => ∃ ds, itD d = some ds ∧ A ds s) st) : wpX Z (iSeq f ρ) A st := by
  unfold iSeq; rw [wpX_bind]
  refine wpX_mono k fun d s ⟨ds, e, k⟩ => ?_
  rw [e]; (first | exact k | exact ⟨k⟩ | (simp only [wpX_pure, wpX_some, wpX_line, wpX_bind]; exact k) | exact False.elim k | exact k.run.elim)
theorem x_for {it : En → M (List D)} {p : Pt} (k : wpX Z (it ρ) (fun ds s => wpX Z (forL (fun d ρ => (opt (p.set d ρ)).bind s1) ds ρ) Q s) st) : wpX Z (sFor it p s1 ρ) Q st := by unfold sFor; rw [wpX_bind]; (first | exact k | exact ⟨k⟩ | (simp only [wpX_pure, wpX_some, wpX_line, wpX_bind]; exact k) | exact False.elim k | exact k.run.elim)
theorem x_lc {it : En → M (List D)} {p : Pt} {vs : List Nat} (k : wpX Z (it ρ) (fun ds s => wp (lcL p.set t f (wipeE ρ vs) ds) A s) st) : wpX Z (eLc it p vs t f ρ) A st := by
  unfold eLc; rw [wpX_bind]
  refine wpX_mono k fun ds s k => ?_
  refine wp.x ?_
  rw [wp_noX]; exact k
theorem w_lc2 {it it1 : En → M (List D)} {p p1 : Pt} {vs vs1 : List Nat} {t1 : En → M Bool} (k : wp (it ρ) (fun ds s => wp (lc2A p.set t it1 p1.set vs1 t1 f (wipeE ρ vs) [] ds) A s) st) : wp (eLc2 it p vs t it1 p1 vs1 t1 f ρ) A st := by
  unfold eLc2; rw [wp_bind]
  refine wp_mono k fun ds s k => ?_
  rw [wp_noX]; exact k
theorem x_lc2 {it it1 : En → M (List D)} {p p1 : Pt} {vs vs1 : List Nat} {t1 : En → M Bool} (k : wpX Z (it ρ) (fun ds s => wp (lc2A p.set t it1 p1.set vs1 t1 f (wipeE ρ vs) [] ds) A s) st) : wpX Z (eLc2 it p vs t it1 p1 vs1 t1 f ρ) A st := by
  unfold eLc2; rw [wpX_bind]
  refine wpX_mono k fun ds s k => ?_
  refine wp.x ?_
  rw [wp_noX]; exact k
theorem x_true (k : T true st) : wpX Z (tTrue ρ) T st := by first | exact k | exact ⟨k⟩
theorem x_raise {x f g : Str} (k : wpX Z (ga ρ) (fun ds s => ∃ a b, ds = [a, b] ∧ Z ⟨x, [(g, b), (f, a)]⟩ s) st) : wpX Z (sRaise x f g ga ρ) Q st := by
  unfold sRaise; rw [wpX_bind]
  refine wpX_mono k fun ds s ⟨a, b, e, k⟩ => ?_
  subst e
  exact ⟨k⟩
theorem w_star (k : wp (f ρ) (fun d s => ∃ xs, seqD d = some xs ∧ wp (ga ρ) (fun ys s => A (xs ++ ys) s) s) st) : wp (aStar f ga ρ) A st := by
  unfold aStar; rw [wp_bind]
  refine wp_mono k fun d s ⟨xs, e, k⟩ => ?_
  rw [wp_bind, e, wp_some, wp_bind]
  simp only [wp_pure]; exact k
theorem x_star (k : wpX Z (f ρ) (fun d s => ∃ xs, seqD d = some xs ∧ wpX Z (ga ρ) (fun ys s => A (xs ++ ys) s) s) st) : wpX Z (aStar f ga ρ) A st := by
  unfold aStar; rw [wpX_bind]
  refine wpX_mono k fun d s ⟨xs, e, k⟩ => ?_
  rw [wpX_bind, e, wpX_some, wpX_bind]
  simp only [wpX_pure]; exact k
/-- what is heard -/
theorem w_hear {P : Addr} {q x f g : Str} {b : En → M D} (ht : Ob.tab P q ∈ st) (hne : f ≠ g) (k : wpX (fun e s => ∃ v1 v2, e = ⟨x, [(g, v2), (f, v1)]⟩ ∧ R (.tup [.str x, v1, v2]) s) (b ρ) (fun d s => R (.tup [.str "gave", d]) s) st) : wp (eHear P q x f g b ρ) R st := by
  rw [wp_is]
  have h : st.any (tabIs P q) = true := List.any_eq_true.mpr ⟨_, ht, decide_eq_true ⟨rfl, rfl⟩⟩
  rw [wpX_is] at k
  cases e : b ρ st with
  | ok d s =>
    rw [e] at k
    have : eHear P q x f g b ρ st = .ok (.tup [.str "gave", d]) s := by unfold eHear; simp only [h, e, if_true]
    rw [this]; exact k
  | err y s =>
    rw [e] at k
    obtain ⟨v1, v2, rfl, k⟩ := k
    have : eHear P q x f g b ρ st = .ok (.tup [.str x, v1, v2]) s := by unfold eHear; simp only [h, e, if_true, and_self, hne, ne_eq, not_false_eq_true]
    rw [this]; exact k
  | bad => rw [e] at k; exact k.elim
/-- a walk with one name: I by the number of items that are done; the body goes on -/
theorem for_eachX {bd : En → M (Fl × En)} {p : Pt} (I : Nat → En → Sto → Prop) : ∀ (ds : List D) (j : Nat) (ρ : En) (st : Sto), (∀ m d ρ s, ds[m]? = some d → I (j + m) ρ s → ∃ ρ', p.set d ρ = some ρ' ∧ wpX Z (bd ρ') (fun r s' => r.1 = .nx ∧ I (j + m + 1) r.2 s') s) → I j ρ st →
    (∀ ρ s, I (j + ds.length) ρ s → Q (.nx, ρ) s) → wpX Z (forL (fun d ρ => (opt (p.set d ρ)).bind bd) ds ρ) Q st
  | [], j, ρ, st, _, hI, k => by unfold forL; rw [wpX_pure]; exact k ρ st hI
  | d :: ds, j, ρ, st, hs, hI, k => by
    unfold forL
    obtain ⟨ρ', e, h⟩ := hs 0 d ρ st rfl hI
    rw [e]
    show wpX Z ((bd ρ').bind _) Q st
    rw [wpX_bind]
    refine wpX_mono h fun r s1 ⟨e1, h1⟩ => ?_
    obtain ⟨fl, ρ1⟩ := r
    cases e1
    exact for_eachX I ds (j + 1) ρ1 s1 (fun m d ρ s hm hi => by
      have := hs (m + 1) d ρ s (by simpa using hm) (by rw [show j + (m + 1) = j + 1 + m by omega]; exact hi)
      rw [show j + (m + 1) + 1 = j + 1 + m + 1 by omega] at this
      exact this) h1 fun ρ s h => k ρ s (by rw [List.length_cons, show j + (ds.length + 1) = j + 1 + ds.length by omega]; exact h)
end
end PL

set_option linter.all false
set_option maxRecDepth 100000
set_option maxHeartbeats 4000000
/-! PL26: a new list of texts that a def without parameters makes of nothing, kept by its caller. -/
namespace PL
open PySem PySem.Spec L2
variable {wW : World}
def strsOf (d : D) : Option (List Str) := match d with
  | .lst ds => strsD ds
  | _ => none
/-- run on no store at all; the caller's store stays -/
def fCall0 (sem : List D → M D) : En → M (List D) := fun _ st => match sem [] [] with
  | .ok d _ => (match strsOf d with
    | some xs => .ok (xs.map D.str) st
    | none => .bad)
  | _ => .bad
section
variable {X : Cx} {E : XK} {H0 : Hp} {x : Str} {p pos : Pos}
theorem jcall0F {k : Nat} {sem : List D → M D} (C : Own X.prog X.w X.K X.mg X.base k x [] sem) (hr : Room k X.A) (hx : Passes (L2.CX X.prog X.w) X E) (hg : Gl X x := by rfl) (hdb : (x == ("__debug__" : Str)) = false := by decide) : JF X E H0 (fCall0 sem) (.Call (.Name x p) [] [] pos) := by
  obtain ⟨fa, fd, F, m, kp, b, _⟩ := C.ex
  refine PE.imp (pe_call0 F hr hg m kp (.all b) .nil hx hdb) fun σ H Q ⟨G, μ, st, ρ, w, er, q⟩ => ?_
  refine ⟨fun _ => none, fun _ => none, [], [], ⟨fun a o h => (nomatch h), fun n o h => (by simp at h), fun n m a h => (nomatch h), fun n a h => (nomatch h)⟩, .nil, rfl, ?_⟩
  have q' : Post X.w X.K X.mg E (rFresh X.K) H G μ (fCall0 sem ρ st) Q := q
  unfold fCall0 at q'
  cases e : sem [] [] with
  | bad => rw [e] at q'; exact q'.elim
  | err y s => rw [e] at q'; exact q'.elim
  | ok d s =>
    rw [e] at q'
    dsimp only at q'
    cases e2 : strsOf d with
    | none => rw [e2] at q'; exact q'.elim
    | some xs =>
      rw [e2] at q'
      intro v H' G' μ' w' s' r
      cases d with
      | lst ds =>
        cases r with
        | lst h rr =>
          rename_i a vs
          have ev := strs_rep rr e2
          subst ev
          have ha : H a = none := s'.ng a rfl (by rw [h]; simp)
          have keep : ∀ b o, H b = some o → H' b = some o := fun b o hb => s'.fr b o hb fun n hn => (nomatch hn)
          have gn : G a = none := by
            cases g : G a with
            | none => rfl
            | some o => have := w.imm a o g; rw [ha] at this; cases this
          have mn : ∀ n, μ n ≠ some a := fun n hn => by
            obtain ⟨c, h1, _, h3⟩ := w.obj n _ (List.getElem?_eq_getElem (w.dom n a hn))
            rw [hn] at h1; cases h1
            obtain ⟨u, hu⟩ := h3.there
            rw [ha] at hu; cases hu
          exact q' (.ref a) H' G μ ⟨fun b o hb => keep b o (w.imm b o hb), fun n o hn => let ⟨c, h1, h2, h3⟩ := w.obj n o hn; ⟨c, h1, h2, h3.mono (Sub.refl _) (fun _ _ h => h) (keep c)⟩, w.inj, w.dom⟩
            ⟨Sub.refl _, fun _ _ h => h, fun b o hb _ => keep b o hb, fun b o hb => ⟨o, keep b o hb⟩, fun b h1 h2 => absurd h1 h2, fun n b h1 h2 => by rw [h1] at h2; cases h2⟩
            ⟨a, xs.map V.str, rfl, w'.imm a _ h, rep_strs xs, gn, mn, ha⟩
      | _ => cases e2
end
theorem w_call0F {sem : List D → M D} {ρ : En} {A : List D → Sto → Prop} {st : Sto} (h : wp (sem []) (fun d _ => ∃ xs : List Str, d = .lst (xs.map D.str) ∧ A (xs.map D.str) st) []) : wp (fCall0 sem ρ) A st := by
  obtain ⟨d, s, e, xs, rfl, k⟩ := wp_ok h
  have es : ∀ ys : List Str, strsD (ys.map D.str) = some ys := fun ys => by
    induction ys with
    | nil => rfl
    | cons y ys ih => show (strsD (ys.map D.str)).map (y :: ·) = _; rw [ih]; rfl
  refine wp_of (a := xs.map D.str) (s := st) ?_ k
  unfold fCall0
  rw [e]
  dsimp only [strsOf]
  rw [es]
end PL

set_option linter.all false
set_option maxRecDepth 100000
set_option maxHeartbeats 4000000
/-! PL27: a text some times. -/
namespace PL
open PySem PySem.Spec L2
variable {wW : World}
def repS (a : Str) (n : Nat) : Str := ⟨(List.replicate n a.cps).foldl (· ++ ·) #[]⟩
def rTimes : R2 := fun x y H Q => ∃ (a : Str) (n : Nat), x = .str a ∧ y = .int (n : Nat) ∧ 2 ≤ n ∧ n ≤ 100000 ∧ 1 ≤ a.length ∧ a.length * n ≤ 1000000 ∧ (repS a n).length ≤ sizeLine ∧ Q (.str (repS a n)) H
def mulSM (x y : D) : M D := match x, y with
  | .str a, .int i => guardM (decide (2 ≤ i) && decide (i ≤ 100000) && decide (1 ≤ a.length) && decide (a.length * i.toNat ≤ 1000000) && decide ((repS a i.toNat).length ≤ sizeLine)) (M.pure (.str (repS a i.toNat)))
  | _, _ => M.bad
section
variable {X : Cx} {E : XK}
theorem op_mulS : OpR X (binaryOp .Mult) rTimes := by
  intro pins s σ H x y v u Q I rx ry h
  obtain ⟨a, n, rfl, rfl, h2, hn, ha, hp, hz, q⟩ := h
  obtain ⟨t, rfl⟩ := rx
  obtain ⟨t', rfl⟩ := ry
  have e1 : ((n : Nat) : Int).toNat = n := Int.toNat_natCast n
  have ne1 : ¬ ((n : Int) < 1) := by omega
  have nz : (((n : Int) == 1) || (a.length == 0)) = false := by
    rw [Bool.or_eq_false_iff]
    exact ⟨beq_eq_false_iff_ne.mpr (by omega), beq_eq_false_iff_ne.mpr (by omega)⟩
  refine PySem.P.mul_str ?_ ?_ ?_ ?_
  · rw [decide_eq_false (by omega), decide_eq_false (by omega)]; rfl
  · intro _ _ hgt
    have hm : (a.length : Int) * n ≤ 1000000 := by rw [← Int.natCast_mul]; omega
    have hd : ((2 : Int) ^ 63 - 1) / n < a.length := hgt
    have := Int.lt_mul_of_ediv_lt (by omega : (0 : Int) < n) hd
    omega
  · intro _ _
    rw [e1]
    exact decide_eq_false (by
      intro c
      have : sizeLine = 16777216 := by decide
      omega)
  · rw [if_neg ne1, if_neg (by rw [nz]; decide), e1]
    exact ⟨hz, ⟨.str (repS a n), H, I.tok _, ⟨_, rfl⟩, q⟩⟩
theorem o_mulS : OpJ X E rTimes mulSM := fun H G μ st x y dx dy Q w rx ry h => by
  cases dx with
  | str a =>
    cases dy with
    | int i =>
      cases rx.str
      cases ry.int
      obtain ⟨c, h⟩ := Post.guard h
      simp only [Bool.and_eq_true, decide_eq_true_eq] at c
      obtain ⟨⟨⟨⟨c1, c2⟩, c3⟩, c4⟩, c5⟩ := c
      refine ⟨a, i.toNat, rfl, ?_, by omega, by omega, c3, c4, c5, h _ _ _ _ w .refl (.str _)⟩
      rw [Int.toNat_of_nonneg (by omega)]
    | _ => exact h.elim
  | _ => exact h.elim
end
theorem w_mulS {a : Str} {n : Nat} {R : D → Sto → Prop} {st : Sto} (h1 : 2 ≤ n) (h2 : n ≤ 100000) (h3 : 1 ≤ a.length) (h4 : a.length * n ≤ 1000000) (h5 : (repS a n).length ≤ sizeLine) (k : R (.str (repS a n)) st) : wp (mulSM (.str a) (.int (n : Nat))) R st := by
  show wp (guardM _ (M.pure _)) R st
  have e : ((n : Nat) : Int).toNat = n := Int.toNat_natCast n
  rw [wp_guard, wp_pure, e]
  refine ⟨?_, k⟩
  simp only [Bool.and_eq_true, decide_eq_true_eq]
  exact ⟨⟨⟨⟨by omega, by omega⟩, h3⟩, h4⟩, h5⟩
end PL

set_option linter.all false
set_option maxRecDepth 100000
set_option maxHeartbeats 4000000
/-! PL28: dicts of the store whose keys are nested tuples: {}, k in d, d[k], d[k] = v. -/
namespace PL
open PySem PySem.Spec L2
def keyN : D → Option NestedKey
  | .tup ds => (nkD (.tup ds)).bind fun k => if k.depth ≤ 8 then some k else none
  | _ => none
def valN (k : NestedKey) : List (D × D) → Option D
  | [] => none
  | q :: r => if nkD q.1 = some k then some q.2 else valN k r
def putN (kvs : List (D × D)) (kd : D) (k : NestedKey) (v : D) : List (D × D) := if (valN k kvs).isSome = true then kvs.map (fun q => if nkD q.1 = some k then (q.1, v) else q) else kvs ++ [(kd, v)]
section
variable {X : Cx} {pins : List (Addr × Obj)} {σ : L2.St} {H G : Hp} {μ : Mu} {s : Shared}
mutual
theorem rep_nk (I : Inv X pins σ H s) (g : Sub G H) : ∀ {d : D} {v : V} {k : NestedKey} {u : Value}, Rep X.K G μ v d → nkD d = some k → RelV v u → NestedIs s.heap k u
  | .non, _, _, _, .non, e, r => by
    cases e
    have r' : _ = Value.none := r
    subst r'
    exact .none
  | .bl b, _, _, _, .bl _, e, r => by
    cases e
    have r' : _ = Value.bool b := r
    subst r'
    exact .bool rfl
  | .int i, _, _, _, .int _, e, r => by
    cases e
    obtain ⟨t, rfl⟩ := r
    exact .int _ _
  | .str x, _, _, _, .str _, e, r => by
    cases e
    obtain ⟨t, rfl⟩ := r
    exact .text _ _
  | .tup ds, _, _, _, .tup h rr, e, r => by
    unfold nkD at e
    obtain ⟨ks, e1, rfl⟩ := Option.map_eq_some_iff.mp e
    have r' : _ = Value.ref _ := r
    subst r'
    obtain ⟨its, rv, ⟨o, ho, hc, n, hd⟩, _⟩ := I.tuple (g.sqT h)
    exact .tup ho hc hd (by simpa using rep_nks I g rr e1 rv)
  | .lst ds, _, _, _, .lst _ _, e, _ => by unfold nkD at e; cases e
  | .frz ds, _, _, _, .frz _ _, e, _ => by unfold nkD at e; cases e
  | .ref n, _, _, _, .ref _, e, _ => by unfold nkD at e; cases e
theorem rep_nks (I : Inv X pins σ H s) (g : Sub G H) : ∀ {ds : List D} {vs : List V} {ks : List NestedKey} {us : List Value}, RepL X.K G μ vs ds → nkL ds = some ks → Vals vs us → NestedAll s.heap ks us
  | [], _, _, _, .nil, e, r => by
    unfold nkL at e
    cases e
    cases r
    exact .nil
  | d :: ds, _, _, _, .cons h t, e, r => by
    unfold nkL at e
    obtain ⟨k, e1, e2⟩ := Option.bind_eq_some_iff.mp e
    obtain ⟨ks, e3, rfl⟩ := Option.map_eq_some_iff.mp e2
    cases r with
    | cons r1 r2 => exact .cons (rep_nk I g h e1 r1) (rep_nks I g t e3 r2)
end
theorem NR.keys_at {K : PySem.W.Frag} : ∀ {kvs : List (D × D)} {ks : List (NestedKey × Addr)} {vs : List V}, NR K G μ ks vs kvs → ∀ k ∈ ks, ∃ d, nkD d = some k.1 ∧ Rep K G μ (.ref k.2) d ∧ k.1.depth ≤ 8
  | [], ks, vs, x, k, hk => by
    have e := congrArg List.length x.nk
    simp only [List.length_map, List.length_nil] at e
    have : ks = [] := List.eq_nil_of_length_eq_zero e.symm
    rw [this] at hk; cases hk
  | q :: kvs, [], vs, x, k, hk => by cases hk
  | q :: kvs, k0 :: ks, vs, x, k, hk => by
    obtain ⟨e1, e2, e3, e4⟩ := x
    simp only [List.map_cons, List.cons.injEq] at e1
    cases vs with
    | nil => simp only [List.map_cons] at e4; cases e4
    | cons v vs =>
      simp only [List.map_cons] at e3 e4
      cases e3 with
      | cons e5 e6 =>
        cases e4 with
        | cons e7 e8 =>
          rcases List.mem_cons.mp hk with rfl | hk
          · exact ⟨q.1, e1.1, e5, e2 k List.mem_cons_self⟩
          · exact NR.keys_at ⟨e1.2, fun k h => e2 k (List.mem_cons_of_mem _ h), e6, e8⟩ k hk
/-- the dict, told as the library tells it -/
theorem raw_of (I : Inv X pins σ H s) (g : Sub G H) {a : Addr} {ks : List (NestedKey × Addr)} {vs : List V} {kvs : List (D × D)} (ha : H a = some (.ext (RawN X.w a ks vs))) (n : NR X.K G μ ks vs kvs) :
    ∃ xs : List (NestedKey × Addr × Value), xs.map (fun x => (x.1, x.2.1)) = ks ∧ Vals vs (xs.map (·.2.2)) ∧ (a == sysModules) = false ∧ xs.length ≤ sizeLine ∧ s.heap.DictOfH (nestedKind X.prog X.w) a xs := by
  obtain ⟨⟨xs, h1, h2, h3, h4, o, es, ep, h5, h6, h7, h8, h9⟩, _⟩ := I.hok a _ ha
  refine ⟨xs, h1, h2, h3, h4, o, es, ep, h5, h6, h7, h8, fun x hx => ?_, h9⟩
  have hk : (x.1, x.2.1) ∈ ks := by rw [← h1]; exact List.mem_map.mpr ⟨x, hx, rfl⟩
  obtain ⟨d, e1, e2, e3⟩ := n.keys_at _ hk
  exact ⟨rep_nk I g e2 e1 rfl, e3⟩
/-- what is found under a key -/
theorem at_nr {K : PySem.W.Frag} {k : NestedKey} : ∀ {kvs : List (D × D)} {ks : List (NestedKey × Addr)} {vs : List V} {xs : List (NestedKey × Addr × Value)}, NR K G μ ks vs kvs → xs.map (fun x => (x.1, x.2.1)) = ks → Vals vs (xs.map (·.2.2)) →
    (match valN k kvs with
    | some d => ∃ p v, atKey xs k = some p ∧ RelV v p.2 ∧ Rep K G μ v d
    | none => atKey xs k = none)
  | [], ks, vs, xs, x, e, r => by
    have e' := congrArg List.length x.nk
    rw [← e] at e'
    simp only [List.length_map, List.length_nil] at e'
    have : xs = [] := List.eq_nil_of_length_eq_zero e'.symm
    subst this; rfl
  | q :: kvs, ks, vs, [], x, e, r => by
    have e' := x.nk
    rw [← e] at e'
    simp at e'
  | q :: kvs, ks, vs, y :: xs, x, e, r => by
    obtain ⟨e1, e2, e3, e4⟩ := x
    subst e
    simp only [List.map_cons, List.cons.injEq] at e1
    simp only [List.map_cons] at e3 e4 r
    cases r with
    | cons r1 r2 =>
      cases e3 with
      | cons e5 e6 =>
        cases e4 with
        | cons e7 e8 =>
          unfold valN
          by_cases h : nkD q.1 = some k
          · rw [if_pos h]
            have hk : y.1 = k := Option.some.inj (e1.1.symm.trans h)
            exact ⟨y.2, _, by simp [atKey, hk], r1, e7⟩
          · rw [if_neg h]
            have hk : ¬ y.1 = k := fun z => h (e1.1.trans (congrArg some z))
            have ih := at_nr (k := k) (kvs := kvs) ⟨e1.2, fun k h => e2 k (List.mem_cons_of_mem _ h), e6, e8⟩ rfl r2
            have ea : atKey (y :: xs) k = atKey xs k := by simp [atKey, List.find?_cons, hk]
            rw [ea]; exact ih
theorem put_nr {K : PySem.W.Frag} {k : NestedKey} {u : Value} {v : V} {d : D} (ru : RelV v u) (rd : Rep K G μ v d) : ∀ {kvs : List (D × D)} {ks : List (NestedKey × Addr)} {vs : List V} {xs : List (NestedKey × Addr × Value)}, NR K G μ ks vs kvs → xs.map (fun x => (x.1, x.2.1)) = ks → Vals vs (xs.map (·.2.2)) →
    ∃ vs', Vals vs' ((xs.map (putAt k u)).map (·.2.2)) ∧ NR K G μ ks vs' (kvs.map fun q => if nkD q.1 = some k then (q.1, d) else q)
  | [], ks, vs, xs, x, e, r => by
    have e' := congrArg List.length x.nk
    rw [← e] at e'
    simp only [List.length_map, List.length_nil] at e'
    have : xs = [] := List.eq_nil_of_length_eq_zero e'.symm
    subst this
    exact ⟨vs, r, x⟩
  | q :: kvs, ks, vs, [], x, e, r => by
    have e' := x.nk
    rw [← e] at e'
    simp at e'
  | q :: kvs, ks, vs, y :: xs, x, e, r => by
    obtain ⟨e1, e2, e3, e4⟩ := x
    subst e
    simp only [List.map_cons, List.cons.injEq] at e1
    simp only [List.map_cons] at e3 e4 r
    cases r with
    | @cons v0 u0 l1 l2 r1 r2 =>
      cases e3 with
      | cons e5 e6 =>
        cases e4 with
        | cons e7 e8 =>
          obtain ⟨vs', i1, i2⟩ := put_nr (k := k) ru rd (kvs := kvs) ⟨e1.2, fun k h => e2 k (List.mem_cons_of_mem _ h), e6, e8⟩ rfl r2
          obtain ⟨j1, j2, j3, j4⟩ := i2
          by_cases h : nkD q.1 = some k
          · have hk : y.1 = k := Option.some.inj (e1.1.symm.trans h)
            refine ⟨v :: vs', ?_, ?_, e2, ?_, ?_⟩
            · rw [List.map_cons, List.map_cons]
              unfold putAt
              rw [if_pos hk]
              exact .cons ru i1
            · rw [List.map_cons, List.map_cons, List.map_cons, if_pos h, j1, e1.1]; rfl
            · rw [List.map_cons, List.map_cons, List.map_cons, if_pos h]
              exact .cons e5 j3
            · rw [List.map_cons, List.map_cons, if_pos h]
              exact .cons rd j4
          · have hk : ¬ y.1 = k := fun z => h (e1.1.trans (congrArg some z))
            refine ⟨v0 :: vs', ?_, ?_, e2, ?_, ?_⟩
            · rw [List.map_cons, List.map_cons]
              unfold putAt
              rw [if_neg hk]
              exact .cons r1 i1
            · rw [List.map_cons, List.map_cons, List.map_cons, if_neg h, j1, e1.1]; rfl
            · rw [List.map_cons, List.map_cons, List.map_cons, if_neg h]
              exact .cons e5 j3
            · rw [List.map_cons, List.map_cons, if_neg h]
              exact .cons e7 j4
theorem NR.more {K : PySem.W.Frag} {kvs : List (D × D)} {ks : List (NestedKey × Addr)} {vs : List V} {k : NestedKey} {b : Addr} {kd d : D} {v : V} (n : NR K G μ ks vs kvs) (e : nkD kd = some k) (h8 : k.depth ≤ 8) (rk : Rep K G μ (.ref b) kd) (rd : Rep K G μ v d) :
    NR K G μ (ks ++ [(k, b)]) (vs ++ [v]) (kvs ++ [(kd, d)]) := by
  obtain ⟨e1, e2, e3, e4⟩ := n
  refine ⟨by rw [List.map_append, List.map_append, e1]; simp [e], fun q hq => ?_, by rw [List.map_append, List.map_append]; exact e3.append (.cons rk .nil), by rw [List.map_append]; exact e4.append (.cons rd .nil)⟩
  rcases List.mem_append.mp hq with h | h
  · exact e2 q h
  · rw [List.mem_singleton.mp h]; exact h8
end
/-! ### the operations -/
def ndAt (n : Nat) : M (List (D × D)) := fun st => match st[n]? with
  | some (.nd kvs) => .ok kvs st
  | _ => .bad
def ngM (x y : D) : M D := (opt (refD x)).bind fun n => (opt (keyN y)).bind fun k => (ndAt n).bind fun kvs => opt (valN k kvs)
def ninM (neg : Bool) (y x : D) : M D := (opt (refD x)).bind fun n => (opt (keyN y)).bind fun k => (ndAt n).bind fun kvs => PL.bl (if neg then !(valN k kvs).isSome else (valN k kvs).isSome)
def npM (x y v : D) : M Unit := (opt (refD x)).bind fun n => (opt (keyN y)).bind fun k => (ndAt n).bind fun kvs => guardM (decide (kvs.length < sizeLine)) (setAt n (.nd (putN kvs y k v)))
section
variable {X : Cx} {E : XK} {H0 : Hp} {e a b c o i value : Expr} {f g h : En → M D} {pos p p0 : Pos} {Φ : Ent} {wW : World}
theorem Post.nd {α β : Type} {K : PySem.W.Frag} {mg : Str → Option Value} {R : RR β α} {H G : Hp} {μ : Mu} {n : Nat} {k : List (D × D) → M α} {st : Sto} {Q : β → Hp → Prop} (q : Post wW K mg E R H G μ ((ndAt n).bind k st) Q) : ∃ kvs, st[n]? = some (.nd kvs) ∧ Post wW K mg E R H G μ (k kvs st) Q := by
  unfold M.bind ndAt at q
  cases e : st[n]? with
  | none => rw [e] at q; exact q.elim
  | some o =>
    rw [e] at q
    cases o with
    | nd kvs => exact ⟨kvs, rfl, q⟩
    | dict _ => exact q.elim
    | lst _ => exact q.elim
    | ins _ _ => exact q.elim
    | tab _ _ => exact q.elim
theorem Rep.nd {K : PySem.W.Frag} {H G : Hp} {μ : Mu} {st : Sto} {v : V} {d : D} {n : Nat} {kvs : List (D × D)} (r : Rep K G μ v d) (hn : refD d = some n) (w : Wd wW K H G μ st) (hs : st[n]? = some (.nd kvs)) : ∃ l ks vs, v = .ref l ∧ μ n = some l ∧ H l = some (.ext (RawN wW l ks vs)) ∧ NR K G μ ks vs kvs := by
  cases r with
  | ref hm =>
    cases hn
    obtain ⟨l, h1, h2, ks, vs, h4, h5⟩ := w.obj n _ hs
    rw [hm] at h1; cases h1
    exact ⟨_, ks, vs, rfl, hm, h4, h5⟩
  | _ => cases hn
theorem keyN_tup {d : D} {k : NestedKey} (h : keyN d = some k) : (∃ ds, d = .tup ds) ∧ nkD d = some k ∧ k.depth ≤ 8 := by
  cases d with
  | tup ds =>
    unfold keyN at h
    obtain ⟨k', h1, h2⟩ := Option.bind_eq_some_iff.mp h
    by_cases h8 : k'.depth ≤ 8
    · rw [if_pos h8] at h2; cases h2
      exact ⟨⟨ds, rfl⟩, h1, h8⟩
    · rw [if_neg h8] at h2; cases h2
  | _ => cases h
theorem rep_key_ref {K : PySem.W.Frag} {G : Hp} {μ : Mu} {v : V} {d : D} {k : NestedKey} (r : Rep K G μ v d) (h : keyN d = some k) : ∃ b, v = .ref b := by
  obtain ⟨⟨ds, rfl⟩, _⟩ := keyN_tup h
  cases r with
  | tup _ _ => exact ⟨_, rfl⟩
theorem je_nget (hu : X.A.units + 65 < cLine) (ho : JE X E H0 f o) (hi : JE X E H0 g i) (hs : NoSl i := by intro _ _; rfl) : JE X E H0 (e2 ngM f g) (.Subscript o i pos) := by
  refine ⟨fun pins s σ H Q I ⟨G, μ, st, ρ, w, er, q⟩ => ?_⟩
  refine subD_of PySem.F.slot_dict_getitem.lookup hs (thn (ho.run pins s σ H (fun x H1 => ∃ G1 μ1 st1 dx, Wd X.w X.K H1 G1 μ1 st1 ∧ ER X.K H1 G1 μ1 H0 ρ σ ∧ Rep X.K G1 μ1 x dx ∧ Post X.w X.K X.mg E (rRep X.K) H1 G1 μ1 ((g ρ).bind (fun y => ngM dx y) st1) Q) I
    ⟨G, μ, st, ρ, w, er, Post.bind q fun dx st1 x H1 G1 μ1 w1 s1 r1 q1 => ⟨G1, μ1, st1, dx, w1, er.step s1, r1, q1⟩⟩) fun u s1 ⟨x, H1, I1, rx, G1, μ1, st1, dx, w1, e1, r1, q1⟩ =>
    thn (hi.run pins s1 σ H1 (fun y H2 => ∃ G2 μ2 st2 dy, Wd X.w X.K H2 G2 μ2 st2 ∧ Rep X.K G2 μ2 x dx ∧ Rep X.K G2 μ2 y dy ∧ Post X.w X.K X.mg E (rRep X.K) H2 G2 μ2 (ngM dx dy st2) Q) I1
    ⟨G1, μ1, st1, ρ, w1, e1, Post.bind q1 fun dy st2 y H2 G2 μ2 w2 s2 r2 q2 => ⟨G2, μ2, st2, dy, w2, r1.mono s2.g s2.m, r2, q2⟩⟩) fun iv s2 ⟨y, H2, I2, ry, G2, μ2, st2, dy, w2, rx', ry', q2⟩ => ?_)
  obtain ⟨n, hn, q2⟩ := Post.opt q2
  obtain ⟨k, hk, q2⟩ := Post.opt q2
  obtain ⟨kvs, hd, q2⟩ := Post.nd q2
  obtain ⟨l, ks, vs, rfl, _, h4, h5⟩ := rx'.nd hn w2 hd
  obtain ⟨b, rfl⟩ := rep_key_ref ry' hk
  obtain ⟨_, hk2, h8⟩ := keyN_tup hk
  obtain rfl : u = Value.ref l := rx
  obtain rfl : iv = Value.ref b := ry
  obtain ⟨xs, x1, x2, x3, x4, x5⟩ := raw_of I2 w2.imm h4 h5
  have hv := at_nr (k := k) h5 x1 x2
  cases e : valN k kvs with
  | none => rw [e] at q2; exact q2.elim
  | some d =>
    rw [e] at hv q2
    obtain ⟨p, v, h6, h7, h9⟩ := hv
    refine ⟨x5.typeIs, wpAny_getItem_heap (knd := nestedKind X.prog X.w) (show X.A.units + 1 + 8 < cLine by omega) ⟨rep_nk I2 w2.imm ry' hk2 rfl, h8⟩ x5 h6 ?_⟩
    exact ⟨v, H2, I2.tok _, h7, q2 _ _ _ _ w2 .refl h9⟩
theorem nin_run {pins : List (Addr × Obj)} {s : Shared} {σ : L2.St} {H G : Hp} {μ : Mu} {st : Sto} {x y : V} {dx dy : D} {u iv : Value} (neg : Bool) (hu : X.A.units + 65 < cLine) (I : Inv X pins σ H s) (w : Wd X.w X.K H G μ st) (rx : RelV x u) (ry : RelV y iv) (rx' : Rep X.K G μ x dx) (ry' : Rep X.K G μ y dy) {Q : VK}
    (q : Post X.w X.K X.mg E (rRep X.K) H G μ (ninM neg dy dx st) Q) : wpAny (model X.prog X.w) X.A (compareOp (if neg = true then .NotIn else .In) iv u) (EP X pins σ Q) X.xe s := by
  obtain ⟨n, hn, q⟩ := Post.opt q
  obtain ⟨k, hk, q⟩ := Post.opt q
  obtain ⟨kvs, hd, q⟩ := Post.nd q
  obtain ⟨l, ks, vs, rfl, _, h4, h5⟩ := rx'.nd hn w hd
  obtain ⟨b, rfl⟩ := rep_key_ref ry' hk
  obtain ⟨_, hk2, h8⟩ := keyN_tup hk
  obtain rfl : u = Value.ref l := rx
  obtain rfl : iv = Value.ref b := ry
  obtain ⟨xs, x1, x2, x3, x4, x5⟩ := raw_of I w.imm h4 h5
  have hv := at_nr (k := k) h5 x1 x2
  have e : (atKey xs k).isSome = (valN k kvs).isSome := by
    cases e : valN k kvs with
    | none => rw [e] at hv; rw [show atKey xs k = none from hv]; rfl
    | some d => rw [e] at hv; obtain ⟨p, v, h6, _⟩ := hv; rw [h6]; rfl
  have key : (nestedKind X.prog X.w).is s.heap k b := ⟨rep_nk I w.imm ry' hk2 rfl, h8⟩
  have room : (nestedKind X.prog X.w).room X.A.in1 := show X.A.units + 1 + 8 < cLine by omega
  cases neg with
  | false =>
    refine wpAny_in_heap (knd := nestedKind X.prog X.w) room key x3 x5 ?_
    rw [e]
    exact ⟨.bl _, H, I.tok _, rfl, q.bl w⟩
  | true =>
    refine PyProof.Rows.wpAny_notIn_heap (knd := nestedKind X.prog X.w) room key x3 x5 ?_
    rw [e]
    exact ⟨.bl _, H, I.tok _, rfl, q.bl w⟩
theorem pc_nin (neg : Bool) {op : CmpOp} (hop : op = if neg = true then .NotIn else .In) (hu : X.A.units + 65 < cLine) (hi : JE X E H0 f i) (ho : JE X E H0 g o) : PC X op i o (Se X E H0 (rRep X.K) (e2 (ninM neg) f g)) := by
  subst hop
  refine ⟨fun pins s σ H Q I ⟨G, μ, st, ρ, w, er, q⟩ => ?_⟩
  refine thn (hi.run pins s σ H (fun y H1 => ∃ G1 μ1 st1 dy, Wd X.w X.K H1 G1 μ1 st1 ∧ ER X.K H1 G1 μ1 H0 ρ σ ∧ Rep X.K G1 μ1 y dy ∧ Post X.w X.K X.mg E (rRep X.K) H1 G1 μ1 ((g ρ).bind (fun x => ninM neg dy x) st1) Q) I
    ⟨G, μ, st, ρ, w, er, Post.bind q fun dy st1 y H1 G1 μ1 w1 s1 r1 q1 => ⟨G1, μ1, st1, dy, w1, er.step s1, r1, q1⟩⟩) fun iv s1 ⟨y, H1, I1, ry, G1, μ1, st1, dy, w1, e1, r1, q1⟩ =>
    thn (ho.run pins s1 σ H1 (fun x H2 => ∃ G2 μ2 st2 dx, Wd X.w X.K H2 G2 μ2 st2 ∧ Rep X.K G2 μ2 y dy ∧ Rep X.K G2 μ2 x dx ∧ Post X.w X.K X.mg E (rRep X.K) H2 G2 μ2 (ninM neg dy dx st2) Q) I1
    ⟨G1, μ1, st1, ρ, w1, e1, Post.bind q1 fun dx st2 x H2 G2 μ2 w2 s2 r2 q2 => ⟨G2, μ2, st2, dx, w2, r1.mono s2.g s2.m, r2, q2⟩⟩) fun u s2 ⟨x, H2, I2, rx, G2, μ2, st2, dx, w2, ry', rx', q2⟩ => ?_
  exact nin_run neg hu I2 w2 rx ry rx' ry' q2
theorem je_nin (hu : X.A.units + 65 < cLine) (ha : JE X E H0 f i) (hb : JE X E H0 g o) (hm : behindInMarks .In o = false := by rfl) : JE X E H0 (e2 (ninM false) f g) (.Compare i [.In] [o] pos) := pe_cmp (pc_nin false rfl hu ha hb) hm
theorem je_nnotIn (hu : X.A.units + 65 < cLine) (ha : JE X E H0 f i) (hb : JE X E H0 g o) (hm : behindInMarks .NotIn o = false := by rfl) : JE X E H0 (e2 (ninM true) f g) (.Compare i [.NotIn] [o] pos) := pe_cmp (pc_nin true rfl hu ha hb) hm
theorem jt_nin (hu : X.A.units + 65 < cLine) (ha : JE X E H0 f i) (hb : JE X E H0 g o) (hm : behindInMarks .In o = false := by rfl) : JT X E H0 (tBl (e2 (ninM false) f g)) (.Compare i [.In] [o] pos) := PT.imp (pt_cmp (pc_nin false rfl hu ha hb) hm) fun σ H Q h => se_test σ H Q h
theorem jt_nnotIn (hu : X.A.units + 65 < cLine) (ha : JE X E H0 f i) (hb : JE X E H0 g o) (hm : behindInMarks .NotIn o = false := by rfl) : JT X E H0 (tBl (e2 (ninM true) f g)) (.Compare i [.NotIn] [o] pos) := PT.imp (pt_cmp (pc_nin true rfl hu ha hb) hm) fun σ H Q h => se_test σ H Q h
def sNPut (fo fi fv : En → M D) : En → M (Fl × En) := fun ρ => (fv ρ).bind fun v => (fo ρ).bind fun x => (fi ρ).bind fun y => (npM x y v).bind fun _ => M.pure (.nx, ρ)
theorem js_nput {pos' : Pos} (hu : X.A.units + 65 < cLine) (ho : JE X E Φ.H f o) (hi : JE X E Φ.H g i) (hv : JE X E Φ.H h value) (hs : swapsWith value (some (.Subscript o i pos')) pos.line X.env = pure false := by rfl) :
    JS X E Φ (sNPut f g h) (.Assign [.Subscript o i pos'] value pos) := by
  refine ⟨fun pins s σ H Dn I ⟨G, μ, st, ρ, w, er, s0, q⟩ => ?_⟩
  refine wpAny_Assign_Subscript (thn (hv.run pins s σ H (fun v H1 => ∃ G1 μ1 st1 dv, Wd X.w X.K H1 G1 μ1 st1 ∧ ER X.K H1 G1 μ1 Φ.H ρ σ ∧ Stp Φ.H Φ.G Φ.μ H1 G1 μ1 ∧ Rep X.K G1 μ1 v dv ∧ PostS X E Φ Dn (((f ρ).bind fun x => (g ρ).bind fun y => (npM x y dv).bind fun _ => M.pure (.nx, ρ)) st1)) I
      ⟨G, μ, st, ρ, w, er, q.bind s0 fun dv st1 v H1 G1 μ1 w1 s1 t1 r1 q1 => ⟨G1, μ1, st1, dv, w1, er.step s1, t1, r1, q1⟩⟩) fun r s1 ⟨v, H1, I1, rv, G1, μ1, st1, dv, w1, e1, t1, r1, q1⟩ =>
    thn (ho.run pins s1 σ H1 (fun x H2 => ∃ G2 μ2 st2 dx, Wd X.w X.K H2 G2 μ2 st2 ∧ ER X.K H2 G2 μ2 Φ.H ρ σ ∧ Stp Φ.H Φ.G Φ.μ H2 G2 μ2 ∧ Rep X.K G2 μ2 v dv ∧ Rep X.K G2 μ2 x dx ∧ PostS X E Φ Dn (((g ρ).bind fun y => (npM dx y dv).bind fun _ => M.pure (.nx, ρ)) st2)) I1
      ⟨G1, μ1, st1, ρ, w1, e1, q1.bind t1 fun dx st2 x H2 G2 μ2 w2 s2 t2 r2 q2 => ⟨G2, μ2, st2, dx, w2, e1.step s2, t2, r1.mono s2.g s2.m, r2, q2⟩⟩) fun u s2 ⟨x, H2, I2, rx, G2, μ2, st2, dx, w2, e2, t2, r1', r2, q2⟩ =>
    thn (hi.run pins s2 σ H2 (fun y H3 => ∃ G3 μ3 st3 dy, Wd X.w X.K H3 G3 μ3 st3 ∧ ER X.K H3 G3 μ3 Φ.H ρ σ ∧ Stp Φ.H Φ.G Φ.μ H3 G3 μ3 ∧ Rep X.K G3 μ3 v dv ∧ Rep X.K G3 μ3 x dx ∧ Rep X.K G3 μ3 y dy ∧ PostS X E Φ Dn (((npM dx dy dv).bind fun _ => M.pure (.nx, ρ)) st3)) I2
      ⟨G2, μ2, st2, ρ, w2, e2, q2.bind t2 fun dy st3 y H3 G3 μ3 w3 s3 t3 r3 q3 => ⟨G3, μ3, st3, dy, w3, e2.step s3, t3, r1'.mono s3.g s3.m, r2.mono s3.g s3.m, r3, q3⟩⟩) fun iv s3 ⟨y, H3, I3, ry, G3, μ3, st3, dy, w3, e3, t3, v3, x3, y3, q3⟩ => ?_) hs
  unfold npM at q3
  rw [M.bind_assoc] at q3
  obtain ⟨n, hn, q3⟩ := PostS.opt q3
  rw [M.bind_assoc] at q3
  obtain ⟨k, hk, q3⟩ := PostS.opt q3
  rw [M.bind_assoc] at q3
  unfold M.bind ndAt at q3
  cases e : st3[n]? with
  | none => rw [e] at q3; exact q3.elim
  | some ob =>
    rw [e] at q3
    cases ob with
    | dict _ => exact q3.elim
    | lst _ => exact q3.elim
    | ins _ _ => exact q3.elim
    | tab _ _ => exact q3.elim
    | nd kvs =>
      obtain ⟨l, ks, vs, rfl, hm, h4, h5⟩ := x3.nd hn w3 e
      obtain ⟨b, rfl⟩ := rep_key_ref y3 hk
      obtain ⟨_, hk2, h8⟩ := keyN_tup hk
      obtain rfl : u = Value.ref l := rx
      obtain rfl : iv = Value.ref b := ry
      by_cases hz : kvs.length < sizeLine
      · have q4 : PostS X E Φ Dn (.ok (.nx, ρ) (st3.set n (.nd (putN kvs dy k dv)))) := by
          have := q3
          simp only [guardM, hz, decide_true, if_true, setAt, M.pure] at this
          exact this
        obtain ⟨xs, x1, x2, x3', x4, x5⟩ := raw_of I3 w3.imm h4 h5
        have len : kvs.length = xs.length := by
          have z1 := congrArg List.length h5.nk
          rw [← x1] at z1
          simpa using z1
        have hv := at_nr (k := k) h5 x1 x2
        refine wpAny_setItem_heap (knd := nestedKind X.prog X.w) (show X.A.units + 1 + 8 < cLine by omega) ⟨rep_nk I3 w3.imm y3 hk2 rfl, h8⟩ x5 (fun h' dd hs' => ?_) x4
        -- the new pairs
        have new : ∃ ks' vs' : _, ((storedH xs k b r).map (fun x => (x.1, x.2.1)) = ks') ∧ Vals vs' ((storedH xs k b r).map (·.2.2)) ∧ NR X.K G3 μ3 ks' vs' (putN kvs dy k dv) := by
          unfold putN
          cases hval : valN k kvs with
          | none =>
            rw [hval] at hv
            rw [storedH_new hv, if_neg (by simp)]
            refine ⟨_, vs ++ [v], rfl, ?_, ?_⟩
            · rw [List.map_append]; exact x2.append (.cons rv .nil)
            · rw [List.map_append, x1]
              exact h5.more hk2 h8 y3 v3
          | some d0 =>
            rw [hval] at hv
            obtain ⟨p, v0, a1, _, _⟩ := hv
            rw [storedH_old a1, if_pos (by simp)]
            obtain ⟨vs', b1, b2⟩ := put_nr (k := k) rv v3 h5 x1 x2
            refine ⟨ks, vs', ?_, b1, b2⟩
            rw [List.map_map, ← x1]
            refine List.map_congr_left fun z _ => ?_
            show ((putAt k r z).1, (putAt k r z).2.1) = _
            unfold putAt
            split <;> rfl
        obtain ⟨ks', vs', n1, n2, n3⟩ := new
        have len' : (storedH xs k b r).length ≤ sizeLine := by
          unfold storedH
          split
          · rw [List.length_map]; exact x4
          · rw [List.length_append, List.length_singleton]; omega
        have okD : ObjOk X.prog X.w (upd H3 l (.ext (RawN X.w l ks' vs'))) h' l (.ext (RawN X.w l ks' vs')) := by
          obtain ⟨ob, es, ep, c1, c2, c3, c4, _, c6⟩ := dd
          refine ⟨⟨_, n1, n2, x3', len', ob, es, ep, c1, c2, c3, c4, c6⟩, ⟨ob, c1⟩, fun h1 h2 p kp => ?_⟩
          obtain ⟨ys, y1, y2, y3, y4, o', es', ep', y5, y6⟩ := p
          exact ⟨ys, y1, y2, y3, y4, o', es', ep', kp _ y5, y6⟩
        obtain ⟨w4, s4⟩ := w3.write (x := .nd (putN kvs dy k dv)) (o := .ext (RawN X.w l ks' vs')) e hm ⟨ks', vs', upd_same, n3⟩
        have ex : ∃ q, h'.get? l = some q := let ⟨ob, _, _, c1, _⟩ := dd; ⟨ob, c1⟩
        exact ⟨σ, _, d_write I3 (by rw [h4]; exact True.intro) hs' ex okD, q4 _ _ _ _ w4 (e3.step s4) (t3.trans s4)⟩
      · have : False := by
          have := q3
          simp only [guardM, hz, decide_false] at this
          exact this
        exact this.elim
/-- {} -/
def eNewN : En → M D := fun _ => newOb (.nd [])
theorem je_newN : JE X E H0 eNewN (.Dict [] [] pos) := by
  refine ⟨fun pins s σ H Q I ⟨G, μ, st, ρ, w, er, q⟩ => ?_⟩
  refine wpAny_Dict_empty ?_
  have hp : H s.heap.objs.size = none := I.hok.fresh (Nat.le_refl _)
  have hb : (s.heap.objs.size == sysModules) = false := beq_eq_false_iff_ne.mpr (Ne.symm (Nat.ne_of_lt I.big))
  refine ⟨.ref s.heap.objs.size, _, I.laid (a := s.heap.objs.size) (o := .ext (RawN X.w s.heap.objs.size [] [])) (t' := s.toks) (fun _ _ q => Heap.get?_push_of_some _ q) (Nat.le_refl _) ?_, rfl, ?_⟩
  · refine ⟨⟨[], rfl, .nil, hb, Nat.zero_le _, _, #[], 0, Heap.get?_push_size _ rfl, ⟨rfl, rfl, rfl⟩, rfl, rfl, List.nodup_nil⟩, ⟨_, Heap.get?_push_size _ rfl⟩, fun h1 h2 p kp => ?_⟩
    obtain ⟨ys, y1, y2, y3, y4, o', es', ep', y5, y6⟩ := p
    exact ⟨ys, y1, y2, y3, y4, o', es', ep', kp _ y5, y6⟩
  · obtain ⟨w2, s2⟩ := w.add (x := .nd []) (o := .ext (RawN X.w s.heap.objs.size [] [])) hp ⟨[], [], upd_same, rfl, (fun _ h => by cases h), .nil, .nil⟩
    exact q _ _ _ _ w2 s2 (.ref (by unfold muAdd; rw [if_pos rfl]))
/-! ### sum of ints, upper -/
def sumM (d : D) : M D := match d with
  | .lst ds => (opt (intsD ds)).bind fun ns => M.pure (.int ns.sum)
  | _ => M.bad
theorem c_sum : C1J X E (rSum X.K) sumM := fun H G μ st x dx Q w rx h => by
  cases dx with
  | lst ds =>
    obtain ⟨ns, hn, h⟩ := Post.opt h
    obtain ⟨p, vs, rfl, hq, r⟩ := rx.lst w.imm
    have e := ints_rep r hn
    subst e
    exact ⟨p, ns, rfl, .inl (.inl hq), h _ _ _ _ w .refl (.int _)⟩
  | _ => exact h.elim
def upperM (d : D) : M D := match d with
  | .str x => guardM (decide (x.length ≤ 5592405)) (M.pure (.str (Txt.upper x)))
  | _ => M.bad
theorem je_upper {apos : Pos} (ho : JB X E H0 f o) (hbase : attributeBase o "upper" X.env (eval o X.env) = eval o X.env := by rfl) (hline : (apos.endLine == pos.line) = true := by rfl) : JE X E H0 (e1 upperM f) (.Call (.Attribute o "upper" apos) [] [] pos) := by
  refine PE.imp (pe_upper ho hbase hline) fun σ H Q ⟨G, μ, st, ρ, w, er, q⟩ => ⟨G, μ, st, ρ, w, er, Post.bind q fun d st1 x H1 G1 μ1 w1 s1 r1 q1 => ?_⟩
  cases d with
  | str y =>
    have q1' : Post X.w X.K X.mg E (rRep X.K) H1 G1 μ1 (guardM (decide (y.length ≤ 5592405)) (M.pure (.str (Txt.upper y))) st1) Q := q1
    obtain ⟨c, q1⟩ := Post.guard q1'
    cases r1.weak.str
    exact ⟨⟨_, rfl⟩, _, rfl, rfl, of_decide_eq_true c, q1 _ _ _ _ w1 .refl (.str _)⟩
  | _ => exact q1.elim
end
end PL

set_option linter.all false
set_option maxRecDepth 100000
set_option maxHeartbeats 4000000
/-! PL29: dict comprehensions with one clause, keys texts or ints. -/
namespace PL
open PySem PySem.Spec L2
def dcL (set : D → En → Option En) (tt : En → M Bool) (tk tv : En → M D) (ρ : En) : List D → List (Key × D) → M (List (Key × D))
  | [], acc => M.pure acc
  | d :: ds, acc => (opt (set d ρ)).bind fun ρ' => (tt ρ').bind fun b => if b = true then (tk ρ').bind fun y => (tv ρ').bind fun z => (opt (keyD y)).bind fun k => guardM (decide (acc.length < sizeLine)) (dcL set tt tk tv ρ ds (putD acc k z)) else dcL set tt tk tv ρ ds acc
def eDc (it : En → M (List D)) (p : Pt) (vs : List Nat) (tt : En → M Bool) (tk tv : En → M D) : En → M D := fun ρ => (it ρ).bind fun ds => (noX (dcL p.set tt tk tv (wipeE ρ vs) ds [])).bind fun kvs => newOb (.dict kvs)
theorem noX_guard {α : Type} (c : Bool) (m : M α) : noX (guardM c m) = guardM c (noX m) := by
  unfold guardM
  split
  · rfl
  · rfl
theorem upd_self {H : Hp} {a : Addr} {o : HO} (h : H a = some o) : upd H a o = H := by
  funext b
  by_cases e : b = a
  · subst e; rw [upd_same, h]
  · rw [upd_ne e]
section
variable {X : Cx} {E : XK} {H0 : Hp} {it : En → M (List D)} {pt : Pt} {vs : List Nat} {tt : En → M Bool} {tk tv : En → M D}
theorem dc_read (hv : ∀ i ∈ pt.slots, i ∈ vs) : ∀ (σ : L2.St) (H : Hp) (Q : VK), Se X E H0 (rRep X.K) (eDc it pt vs tt tk tv) σ H Q →
    tDc (Se X E H0 (rIt X.w X.K) it) (pt.g X.K) (Se X xNo H0 rTrue tt) (Se X xNo H0 (rRep X.K) tk) (Se X xNo H0 (rRep X.K) tv) vs σ H Q := by
  intro σ H Q ⟨G, μ, st, ρ, w, er, q⟩
  refine ⟨G, μ, st, ρ, w, er, Post.raw q fun ds st1 J H1 G1 μ1 w1 s1 r1 q0 => ?_⟩
  intro L hL
  obtain ⟨hz, hJ⟩ := r1
  have q1 := q0.step s1
  have er1 : ER X.K H1 G1 μ1 H0 (wipeE ρ vs) (L2.wipe σ vs) := (er.step s1).wipe vs
  have g1L : G1 L = none := none_before w1.imm.th hL
  obtain ⟨wL, sL⟩ := w1.lay (o := .dK []) hL
  have nL : ∀ n, μ1 n ≠ some L := fun k e => by
    obtain ⟨b, h1, _, h3⟩ := w1.obj k _ (List.getElem?_eq_getElem (w1.dom k L e))
    rw [e] at h1; cases h1
    obtain ⟨u, hu⟩ := h3.there
    rw [hL] at hu; cases hu
  let In : Nat → Hp → Prop := fun i H => ∃ G μ st acc accD, Wd X.w X.K H G μ st ∧ Stp H1 G1 μ1 H G μ ∧ H L = some (.dK acc) ∧ KR X.K G μ acc accD ∧ G L = none ∧ (∀ n, μ n ≠ some L) ∧
    Post X.w X.K X.mg E (rRep X.K) H1 G1 μ1 (((noX (dcL pt.set tt tk tv (wipeE ρ vs) (ds.drop i) accD)).bind fun kvs => newOb (.dict kvs)) st) Q
  refine ⟨fun i m H => m = ds.length - i ∧ i ≤ ds.length ∧ In i H, ⟨ds.length, by simp, Nat.zero_le _, G1, μ1, st1, [], [], wL, sL, upd_same, .nil, g1L, nL, q1⟩, ?_⟩
  rintro i m H ⟨rfl, hi, G, μ, st, acc, accD, w, s, hH, ra, gL, nL, q⟩
  obtain ⟨hgo, hstop⟩ := hJ H G μ st w s.g s.m
  by_cases hlt : i < ds.length
  · obtain ⟨go, hy⟩ := hgo i hlt
    refine .inr ⟨go, In (i + 1), fun H' h => ⟨_, by omega, rfl, hlt, h⟩, fun x H2 hx => ?_⟩
    obtain ⟨G2, w2, s2, d, hd, rd⟩ := hy x H2 hx
    rw [List.drop_eq_getElem_cons hlt] at q
    have ed : ds[i] = d := Option.some.inj ((List.getElem?_eq_getElem hlt).symm.trans hd)
    rw [ed] at q
    unfold dcL at q
    rw [noX_bind, noX_opt, M.bind_assoc] at q
    obtain ⟨ρ2, hset, q⟩ := Post.opt q
    have t2 := s.trans s2
    refine Pt.ok hset w2 rd (er1.step t2) fun σ2 er2 hw => ⟨(hw vs hv).trans (wipe_idem vs σ), ?_⟩
    rw [noX_bind, M.bind_assoc] at q
    refine ⟨G2, μ, st, ρ2, w2, er2, Post.nbind q fun b st3 b' H3 G3 μ3 w3 s3 r3 q3 => ?_⟩
    cases r3
    have keep : ∀ {H' G' : Hp} {μ' : Mu}, Stp H G μ H' G' μ' → H' L = some (.dK acc) ∧ KR X.K G' μ' acc accD ∧ G' L = none ∧ ∀ n, μ' n ≠ some L := fun {H' G' μ'} z => by
      refine ⟨z.fr L _ hH nL, ra.mono z.g z.m, ?_, fun n e => ?_⟩
      · cases e : G' L with
        | none => rfl
        | some o => have := z.ng L gL (by rw [e]; simp); rw [hH] at this; cases this
      · cases e' : μ n with
        | some b => have := z.m n b e'; rw [e] at this; cases this; exact nL n e'
        | none => have := z.nm n L e' e; rw [hH] at this; cases this
    cases b with
    | false =>
      obtain ⟨k1, k2, k3, k4⟩ := keep (s2.trans s3)
      exact ⟨G3, μ3, st3, acc, accD, w3, t2.trans s3, k1, k2, k3, k4, q3⟩
    | true =>
      have q3' : Post X.w X.K X.mg E (rRep X.K) H1 G1 μ1 (((noX ((tk ρ2).bind fun y => (tv ρ2).bind fun z => (opt (keyD y)).bind fun k => guardM (decide (accD.length < sizeLine)) (dcL pt.set tt tk tv (wipeE ρ vs) (ds.drop (i + 1)) (putD accD k z)))).bind fun kvs => newOb (.dict kvs)) st3) Q := q3
      rw [noX_bind, M.bind_assoc] at q3'
      refine ⟨G3, μ3, st3, ρ2, w3, er2.step s3, Post.nbind q3' fun dy st4 y H4 G4 μ4 w4 s4 r4 q4 => ?_⟩
      rw [noX_bind, M.bind_assoc] at q4
      refine ⟨G4, μ4, st4, ρ2, w4, (er2.step s3).step s4, Post.nbind q4 fun dz st5 z H5 G5 μ5 w5 s5 r5 q5 => ?_⟩
      rw [noX_bind, noX_opt, M.bind_assoc] at q5
      obtain ⟨k, hk, q5⟩ := Post.opt q5
      rw [noX_guard] at q5
      have q5' : decide (accD.length < sizeLine) = true ∧ Post X.w X.K X.mg E (rRep X.K) H1 G1 μ1 (((noX (dcL pt.set tt tk tv (wipeE ρ vs) (ds.drop (i + 1)) (putD accD k dz))).bind fun kvs => newOb (.dict kvs)) st5) Q := by
        unfold guardM at q5
        by_cases hc : decide (accD.length < sizeLine) = true
        · rw [if_pos hc] at q5; exact ⟨hc, q5⟩
        · rw [if_neg hc] at q5; exact q5.elim
      obtain ⟨hc, q6⟩ := q5'
      obtain ⟨k1, k2, k3, k4⟩ := keep (((s2.trans s3).trans s4).trans s5)
      have ey := rep_key (r4.mono s5.g s5.m) hk
      refine ⟨acc, k, ey, k1, by rw [k2.len]; exact of_decide_eq_true hc, G5, μ5, st5, putK acc k z, putD accD k dz, w5.over k3 k4, (((t2.trans s3).trans s4).trans s5).over hL, upd_same, k2.put r5, k3, k4, q6⟩
  · have e : i = ds.length := by omega
    subst e
    rw [List.drop_length] at q
    refine .inl ⟨hstop _ (Nat.le_refl _), ?_⟩
    have q' : Post X.w X.K X.mg E (rRep X.K) H1 G1 μ1 (newOb (.dict accD) st) Q := q
    have sub : SubM μ (muAdd μ st.length L) := fun n a h => by
      have := w.dom n a h
      unfold muAdd; rw [if_neg (by omega)]; exact h
    have eL := upd_self hH
    have w4 := w.adopt (p := L) (o := .dK acc) (x := .dict accD) gL nL ((ra.mono (fun _ _ h => h) sub).or upd_same)
    have s4 := s.adopt w (p := L) (o := .dK acc) hL
    rw [eL] at w4 s4
    exact q' (.ref L) H G _ w4 s4 (.ref (by unfold muAdd; rw [if_pos rfl]))
variable {kx vx tg iter : Expr} {ifs : List Expr} {scope : Scope} {own : List (Str × Nat)} {pos : Pos}
theorem je_dc (hc : X.calm = true) (hN : X.N.Nodup) (hi : JI X E H0 tg it iter) (ok : BlkOk X.N X.env.scope scope own) (hv : ∀ i ∈ pt.slots, i ∈ own.map (·.2))
    (hg : ∀ (s : Shared) (H : Hp) (C : Addr) (cl : List (Str × Addr)) (fp : List Addr), PG (X.blk s H scope (compEnvC scope cl C X.env) fp) tg (pt.g X.K))
    (ht : ∀ (s : Shared) (H : Hp) (C : Addr) (cl : List (Str × Addr)) (fp : List Addr), JTs (X.blk s H scope (compEnvC scope cl C X.env) fp) xNo H0 tt ifs)
    (hk : ∀ (s : Shared) (H : Hp) (C : Addr) (cl : List (Str × Addr)) (fp : List Addr), JE (X.blk s H scope (compEnvC scope cl C X.env) fp) xNo H0 tk kx)
    (he : ∀ (s : Shared) (H : Hp) (C : Addr) (cl : List (Str × Addr)) (fp : List Addr), JE (X.blk s H scope (compEnvC scope cl C X.env) fp) xNo H0 tv vx) (hs : ∀ x, foldedSetIterable iter X.env x = pure x := by intro _; rfl) :
    JE X E H0 (eDc it pt (own.map (·.2)) tt tk tv) (.DictComp kx vx [⟨tg, iter, ifs, 0⟩] scope pos) := PE.imp (pe_dc (tt := Se X xNo H0 rTrue tt) (tk := Se X xNo H0 (rRep X.K) tk) (tv := Se X xNo H0 (rRep X.K) tv) hc hN hi ok hg ht hk he hs) (dc_read hv)
end
end PL

set_option linter.all false
set_option maxRecDepth 100000
set_option maxHeartbeats 4000000
/-! PL30: bools among ints: b + i, b - i, -b, str(b). -/
namespace PL
open PySem PySem.Spec L2
def b01 (b : Bool) : Int := if b = true then 1 else 0
def addBM (x y : D) : M D := match x, y with
  | .bl b, .int j => M.pure (.int (b01 b + j))
  | x, y => addM x y
def subBM (x y : D) : M D := match x, y with
  | .bl b, .int j => M.pure (.int (b01 b - j))
  | x, y => subM x y
def strBM (x : D) : M D := match x with
  | .bl b => M.pure (.str (if b = true then "True" else "False"))
  | x => strM x
def eNegB (f : En → M D) : En → M D := fun ρ => (f ρ).bind fun d => match d with
  | .int i => M.pure (.int (-i))
  | .bl b => M.pure (.int (-(b01 b)))
  | _ => M.bad
section
variable {X : Cx} {E : XK} {H0 : Hp} {a : Expr} {f : En → M D} {pos : Pos}
def rBI (g : Int → Int → Int) : R2 := fun x y H Q => ∃ b j, x = .bl b ∧ y = .int j ∧ Q (.int (g (b01 b) j)) H
theorem op_add_bi : OpR X (binaryOp .Add) (rBI (· + ·)) := by
  intro pins s σ H x y v u Q I rx ry h
  obtain ⟨b, j, rfl, rfl, q⟩ := h
  obtain ⟨t, rfl⟩ := ry
  cases rx
  exact PySem.IntBool.add_bool_int ⟨.int (b01 b + j), H, I.tok _, ⟨_, rfl⟩, q⟩
theorem op_sub_bi : OpR X (binaryOp .Sub) (rBI (· - ·)) := by
  intro pins s σ H x y v u Q I rx ry h
  obtain ⟨b, j, rfl, rfl, q⟩ := h
  obtain ⟨t, rfl⟩ := ry
  cases rx
  exact PySem.IntBool.sub_bool_int ⟨.int (b01 b - j), H, I.tok _, ⟨_, rfl⟩, q⟩
theorem op_addB : OpR X (binaryOp .Add) (fun x y H Q => rBI (· + ·) x y H Q ∨ rAddA X.K x y H Q) := op_add_bi.or op_addA
theorem op_subB : OpR X (binaryOp .Sub) (fun x y H Q => rBI (· - ·) x y H Q ∨ rI0 (fun i j => .int (i - j)) x y H Q) := op_sub_bi.or op_sub
theorem o_addB : OpJ X E (fun x y H Q => rBI (· + ·) x y H Q ∨ rAddA X.K x y H Q) addBM := fun H G μ st x y dx dy Q w rx ry h => by
  cases dx with
  | bl b =>
    cases dy with
    | int j =>
      refine .inl ⟨b, j, ?_, ry.int, h _ _ _ _ w .refl (.int _)⟩
      rcases rx with rx | ⟨_, _, _, _, e, _⟩
      · cases rx; rfl
      · cases e
    | _ => exact .inr (o_add H G μ st x y _ _ Q w rx ry h)
  | _ => exact .inr (o_add H G μ st x y _ _ Q w rx ry h)
theorem o_subB : OpJ X E (fun x y H Q => rBI (· - ·) x y H Q ∨ rI0 (fun i j => .int (i - j)) x y H Q) subBM := fun H G μ st x y dx dy Q w rx ry h => by
  cases dx with
  | bl b =>
    cases dy with
    | int j =>
      refine .inl ⟨b, j, ?_, ry.int, h _ _ _ _ w .refl (.int _)⟩
      rcases rx with rx | ⟨_, _, _, _, e, _⟩
      · cases rx; rfl
      · cases e
    | _ => exact .inr (o_sub H G μ st x y _ _ Q w rx ry h)
  | _ => exact .inr (o_sub H G μ st x y _ _ Q w rx ry h)
theorem call_str_bool : CallR X (.type "str") (fun xs H Q => ∃ b : Bool, xs = [.bl b] ∧ Q (.str (if b = true then "True" else "False")) H) := by
  intro pins s σ H xs us Q I r h
  obtain ⟨b, rfl, q⟩ := h
  obtain ⟨u, rfl, rfl⟩ := vals1 r
  refine PySem.P.str_of_bool ⟨.str (if b = true then "True" else "False"), H, I.tok _, ?_, q⟩
  cases b <;> exact ⟨_, rfl⟩
theorem call_strB : CallR X (.type "str") (fun xs H Q => (∃ b : Bool, xs = [.bl b] ∧ Q (.str (if b = true then "True" else "False")) H) ∨ ∃ i, xs = [.int i] ∧ i.natAbs.log2 < 1920 ∧ Q (.str (toString i)) H) := call_str_bool.or call_str_int
theorem c_strB : C1J X E (fun xs H Q => (∃ b : Bool, xs = [.bl b] ∧ Q (.str (if b = true then "True" else "False")) H) ∨ ∃ i, xs = [.int i] ∧ i.natAbs.log2 < 1920 ∧ Q (.str (toString i)) H) strBM := fun H G μ st x dx Q w rx h => by
  cases dx with
  | bl b =>
    refine .inl ⟨b, ?_, h _ _ _ _ w .refl (.str _)⟩
    rcases rx with rx | ⟨_, _, _, _, e, _⟩
    · cases rx; rfl
    · cases e
  | _ => exact .inr (c_str H G μ st x _ Q w rx h)
theorem un_negB : UnR X (unaryOp .USub) (fun x H Q => (∃ b, x = .bl b ∧ Q (.int (-(b01 b))) H) ∨ rU (fun i => .int (-i)) x H Q) := by
  intro pins s σ H x v Q I rx h
  rcases h with ⟨b, rfl, q⟩ | h
  · cases rx
    refine unaryOp_gives (op := .USub) (typeIs_bool s b) rfl F.slot_bool_neg F.entry_int_neg (F.args_int_neg_1 _) (?_ : Gives (Builtin.«int.__neg__» ⟨[.bool b], []⟩) (.int (-(b01 b)))) ⟨.int (-(b01 b)), H, I.tok _, ⟨_, rfl⟩, q⟩
    exact .of_wp fun M A E s Q h => by obtain ⟨hp, g, d, tk, os⟩ := s; wp_walk; exact ⟨_, rfl, h⟩
  · exact un_neg pins s σ H x v Q I rx h
theorem je_negB (ha : JE X E H0 f a) : JE X E H0 (eNegB f) (.UnaryOp .USub a pos) := PE.imp (pe_un un_negB ha) fun σ H Q ⟨G, μ, st, ρ, w, er, q⟩ =>
  ⟨G, μ, st, ρ, w, er, Post.bind q fun d st1 x H1 G1 μ1 w1 s1 r1 q1 => by
    cases r1 with
    | int i => exact .inr ⟨i, rfl, q1 _ _ _ _ w1 .refl (.int _)⟩
    | bl b => exact .inl ⟨b, rfl, q1 _ _ _ _ w1 .refl (.int _)⟩
    | _ => exact q1.elim⟩
end
end PL

set_option linter.all false
set_option maxRecDepth 100000
set_option maxHeartbeats 4000000
/-! PL31: a sum of lists that nobody else holds; a list that a def made in the store is taken out of it. -/
namespace PL
open PySem PySem.Spec L2
mutual
/-- no place of the store is told -/
def noR : D → Bool
  | .tup ds => noRL ds
  | .lst ds => noRL ds
  | .frz ds => noRL ds
  | .ref _ => false
  | _ => true
def noRL : List D → Bool
  | [] => true
  | d :: ds => noR d && noRL ds
end
mutual
theorem Rep.nomu {K : PySem.W.Frag} {G : Hp} {μ μ' : Mu} : ∀ {v : V} {d : D}, Rep K G μ v d → noR d = true → Rep K G μ' v d
  | _, _, .non, _ => .non
  | _, _, .bl b, _ => .bl b
  | _, _, .int i, _ => .int i
  | _, _, .str x, _ => .str x
  | _, _, .tup h r, e => .tup h (RepL.nomu r (by unfold noR at e; exact e))
  | _, _, .lst h r, e => .lst h (RepL.nomu r (by unfold noR at e; exact e))
  | _, _, .frz h r, e => .frz h (RepL.nomu r (by unfold noR at e; exact e))
  | _, _, .ref h, e => by unfold noR at e; cases e
theorem RepL.nomu {K : PySem.W.Frag} {G : Hp} {μ μ' : Mu} : ∀ {vs : List V} {ds : List D}, RepL K G μ vs ds → noRL ds = true → RepL K G μ' vs ds
  | _, _, .nil, _ => .nil
  | _, _, .cons h r, e => by
    unfold noRL at e
    rw [Bool.and_eq_true] at e
    exact .cons (Rep.nomu h e.1) (RepL.nomu r e.2)
end
def plainO : Ob → Bool
  | .dict kvs => noRL (kvs.map (·.2))
  | .lst ds => noRL ds
  | .ins _ fs => noRL (fs.map (·.2))
  | .tab _ _ => true
  | .nd kvs => noRL (kvs.map (·.1)) && noRL (kvs.map (·.2))
theorem OR.nomu {wW : World} {K : PySem.W.Frag} {G H : Hp} {μ μ' : Mu} {a : Addr} {o : Ob} (x : OR wW K G μ H a o) (e : plainO o = true) : OR wW K G μ' H a o := by
  cases o with
  | dict kvs => obtain ⟨ws, h, k, r⟩ := x; exact ⟨ws, h, k, r.nomu e⟩
  | lst ds => obtain ⟨vs, h, r⟩ := x; exact ⟨vs, h, r.nomu e⟩
  | ins C fs => obtain ⟨dx, ws, h, k, r⟩ := x; exact ⟨dx, ws, h, k, r.nomu e⟩
  | tab P q => exact x
  | nd kvs =>
    have e : (noRL (kvs.map (·.1)) && noRL (kvs.map (·.2))) = true := e
    rw [Bool.and_eq_true] at e
    obtain ⟨ks, vs, h, r⟩ := x
    exact ⟨ks, vs, h, r.nk, r.dp, r.k.nomu e.1, r.v.nomu e.2⟩
def fTake (f : En → M D) : En → M (List D) := fun ρ st => match f ρ st with
  | .ok (.ref m) s => (match s[m]? with
    | some (.lst ds) => if m + 1 = s.length ∧ st.length ≤ m ∧ noRL ds = true ∧ (s.take m).all plainO = true then .ok ds (s.take m) else .bad
    | _ => .bad)
  | .ok _ _ => .bad
  | .err x s => .err x s
  | .bad => .bad
section
variable {X : Cx} {E : XK} {H0 : Hp} {e a b : Expr} {f g : En → M D} {pos : Pos}
theorem jf_take (h : JE X E H0 f e) : JF X E H0 (fTake f) e := PE.imp h fun σ H Q ⟨G, μ, st, ρ, w, er, q⟩ => by
  refine ⟨G, μ, st, ρ, w, er, ?_⟩
  have q : Post X.w X.K X.mg E (rFresh X.K) H G μ (fTake f ρ st) Q := q
  unfold fTake at q
  cases ef : f ρ st with
  | bad => rw [ef] at q; exact q.elim
  | err y s => rw [ef] at q; exact q
  | ok d s =>
    rw [ef] at q
    cases d with
    | ref m =>
      dsimp only at q
      cases es : s[m]? with
      | none => rw [es] at q; exact q.elim
      | some o =>
        rw [es] at q
        cases o with
        | lst ds =>
          dsimp only at q
          by_cases hc : m + 1 = s.length ∧ st.length ≤ m ∧ noRL ds = true ∧ (s.take m).all plainO = true
          · rw [if_pos hc] at q
            obtain ⟨h1, h2, h3, h4⟩ := hc
            intro v H' G' μ' w' t r
            cases r with
            | ref hm =>
              rename_i a
              obtain ⟨a', e1, e2, vs, hv, hr⟩ := w'.obj m _ es
              rw [hm] at e1; cases e1
              have hmn : μ m = none := by
                cases hq : μ m with
                | none => rfl
                | some b => have := w.dom m b hq; omega
              refine q (.ref a) H' G' (fun n => if n = m then none else μ' n) ⟨w'.imm, fun n o hn => ?_, fun n k b hn hk => ?_, fun n b hn => ?_⟩ ⟨t.g, fun n b hn => ?_, t.fr, t.th, t.ng, fun n b hn hb => ?_⟩ ⟨a, vs, rfl, hv, hr.nomu h3, e2, fun n hn => ?_, t.nm m a hmn hm⟩
              · have hlt : n < m := by
                  have := (List.getElem?_eq_some_iff.mp hn).1
                  rw [List.length_take] at this; omega
                rw [List.getElem?_take_of_lt hlt] at hn
                obtain ⟨c, c1, c2, c3⟩ := w'.obj n o hn
                refine ⟨c, by rw [if_neg (by omega)]; exact c1, c2, c3.nomu ?_⟩
                refine List.all_eq_true.mp h4 o (List.mem_of_getElem? (i := n) ?_)
                rw [List.getElem?_take_of_lt hlt]; exact hn
              · skip
                by_cases n1 : n = m
                · rw [if_pos n1] at hn; cases hn
                · by_cases n2 : k = m
                  · rw [if_pos n2] at hk; cases hk
                  · rw [if_neg n1] at hn; rw [if_neg n2] at hk
                    exact w'.inj n k b hn hk
              · skip
                by_cases n1 : n = m
                · rw [if_pos n1] at hn; cases hn
                · rw [if_neg n1] at hn
                  have := w'.dom n b hn
                  rw [List.length_take]; omega
              · have := w.dom n b hn

                rw [if_neg (by omega)]; exact t.m n b hn
              · skip
                by_cases n1 : n = m
                · rw [if_pos n1] at hb; cases hb
                · rw [if_neg n1] at hb
                  exact t.nm n b hn hb
              · dsimp only at hn
                by_cases n1 : n = m
                · rw [if_pos n1] at hn; cases hn
                · rw [if_neg n1] at hn
                  exact n1 (w'.inj n m a hn hm)
          · rw [if_neg hc] at q; exact q.elim
        | _ => exact q.elim
    | _ => exact q.elim
/-- two lists behind one another, in their maker's hands -/
def fAddL (f g : En → M D) : En → M (List D) := fun ρ => (f ρ).bind fun x => (g ρ).bind fun y => match x, y with
  | .lst xs, .lst ys => (line (xs.length + ys.length)).bind fun _ => M.pure (xs ++ ys)
  | _, _ => M.bad
theorem jf_addL (ha : JB X E H0 f a) (hb : JB X E H0 g b) : JF X E H0 (fAddL f g) (.BinOp a .Add b pos) := PE.imp (pe_op op_cat ha hb) fun σ H Q ⟨G, μ, st, ρ, w, er, q⟩ => by
  refine ⟨G, μ, st, ρ, w, er, Post.bind q fun dx st1 x H1 G1 μ1 w1 s1 r1 q1 => ?_⟩
  refine ⟨G1, μ1, st1, ρ, w1, er.step s1, Post.bind q1 fun dy st2 y H2 G2 μ2 w2 s2 r2 q2 => ?_⟩
  have rx := (r1.step s2).weak
  have ry := r2.weak
  cases dx with
  | lst xs =>
    cases dy with
    | lst ys =>
      obtain ⟨c, h⟩ := Post.line (X := X) q2
      obtain ⟨p, vs, rfl, h1, r1⟩ := rx.lst w2.imm
      obtain ⟨q, us, rfl, h2, r2⟩ := ry.lst w2.imm
      refine ⟨p, q, vs, us, rfl, rfl, h1, h2, by rw [RepL.length r1, RepL.length r2]; exact c, fun l hl => ?_⟩
      obtain ⟨w3, s3⟩ := w2.lay (o := .lst (vs ++ us)) hl
      have gp : G2 l = none := none_before w2.imm.th hl
      refine h _ _ _ _ w3 s3 ⟨l, vs ++ us, rfl, upd_same, r1.append r2, gp, fun k e => ?_, hl⟩
      obtain ⟨b, h1, _, h3⟩ := w2.obj k _ (List.getElem?_eq_getElem (w2.dom k l e))
      rw [e] at h1; cases h1
      obtain ⟨u, hu⟩ := h3.there
      rw [hl] at hu; cases hu
    | _ => exact q2.elim
  | _ => cases dy <;> exact q2.elim
end
end PL

set_option linter.all false
/-! PG0: what the drawing defs of the laws do (printed). -/
namespace PG
open PySem PySem.Spec L2 PL
def s_law_feed : En → M (Fl × En) := sRet (eDict ["cells", "at", "rest", "made"] [eL (eLc (iSeq (eSl (eVar 0) oNo (oSo (eC (.int 63))))) (.nm 1) [1] (tTrue) (e1 intM (eVar 1))), eC (.int 0), eC (.int 0), eC (.int 0)])
def m_law_feed : List D → M D := runB 2 s_law_feed
def s_law_draw : En → M (Fl × En) := sSeq (sDPut (eVar 0) (eC (.str "made")) (e2 addM (e2 dgM (eVar 0) (eC (.str "made"))) (eC (.int 1)))) (sSeq (sIf (tBl (e2 gtM (e2 dgM (eVar 0) (eC (.str "rest"))) (eC (.int 0)))) (sSeq (sSet 2 (e2 modM (e1 intM (e2 dgM (eVar 0) (eC (.str "rest")))) (eVar 1))) (sSeq (sDPut (eVar 0) (eC (.str "rest")) (e2 fdivM (e2 dgM (eVar 0) (eC (.str "rest"))) (eVar 1))) (sRet (eVar 2)))) (sNil)) (sSeq (sPar 3 4 (e2 dgM (eVar 0) (eC (.str "cells"))) (e2 dgM (eVar 0) (eC (.str "at")))) (sSeq (sDPut (eVar 0) (eC (.str "at")) (e2 addM (eVar 4) (eC (.int 1)))) (sSeq (sSet 5 (eIf (tBl (e2 neM (eVar 3) (eLst (aNil)))) (e2 ixM (eVar 3) (e2 modM (e1 intM (eVar 4)) (e1 lenM (eVar 3)))) (eC (.int 27644437)))) (sSeq (sIf (tAn (tBl (e2 geM (eVar 5) (e2 powM (eC (.int 10)) (eC (.int 18))))) (tBl (e2 ltM (eVar 4) (e1 lenM (eVar 3))))) (sSeq (sDPut (eVar 0) (eC (.str "rest")) (e2 fdivM (eVar 5) (eVar 1))) (sRet (e2 modM (e1 intM (eVar 5)) (eVar 1)))) (sNil)) (sSeq (sSet 6 (e2 modM (e1 intM (e2 addM (e2 addM (e2 modM (e1 intM (eVar 5)) (eC (.int 1000000403))) (e2 mulM (eC (.int 70001)) (e2 dgM (eVar 0) (eC (.str "made"))))) (eC (.int 97)))) (eC (.int 2147483587)))) (sSeq (sSet 6 (e2 modM (e1 intM (e2 addM (e2 addM (e2 mulM (eVar 6) (eVar 6)) (e2 mulM (eC (.int 3900017)) (e2 dgM (eVar 0) (eC (.str "made"))))) (eC (.int 31)))) (eC (.int 2147483563)))) (sSeq (sSet 6 (e2 modM (e1 intM (e2 addM (e2 mulM (eVar 6) (eVar 6)) (e2 mulM (eC (.int 307)) (eVar 6)))) (eC (.int 2147483497)))) (sRet (e2 modM (e1 intM (e2 fdivM (eVar 6) (eC (.int 32)))) (eVar 1)))))))))))
def m_law_draw : List D → M D := runB 7 s_law_draw
def s_law_pick : En → M (Fl × En) := sRet (e2 ixM (eVar 1) (eCall 2 m_law_draw (aCons (eVar 0) (aCons (e1 lenM (eVar 1)) (aNil)))))
def m_law_pick : List D → M D := runB 2 s_law_pick
def s_law_names : En → M (Fl × En) := sSeq (sSet 2 (eC (.str "abcdefghijklmnopqrstuvwxyz"))) (sSeq (sSet 3 (eLst (aCons (eC (.str "put")) (aCons (eC (.str "take")) (aCons (eC (.str "do")) (aCons (eC (.str "party")) (aCons (eC (.str "channel")) (aCons (eC (.str "arrow")) (aCons (eC (.str "queue")) (aCons (eC (.str "bag")) (aCons (eC (.str "call")) (aCons (eC (.str "a")) (aCons (eC (.str "ab")) (aCons (eC (.str "abc")) (aCons (eC (.str "z")) (aNil)))))))))))))))) (sSeq (sPar 4 5 (eCall 2 m_law_draw (aCons (eVar 0) (aCons (eC (.int 3)) (aNil)))) (eCall 2 m_law_draw (aCons (eVar 0) (aCons (eC (.int 8)) (aNil))))) (sSeq (sSet 6 (eM1 joinM (eC (.str "")) (eL (eLc (iRange1 (aCons (eVar 5) (aNil))) (.nm 7) [7] (tTrue) (e2 ixM (eVar 2) (eCall 2 m_law_draw (aCons (eVar 0) (aCons (eC (.int 26)) (aNil))))))))) (sSeq (sParO 8 9 (eCall 2 m_law_draw (aCons (eVar 0) (aCons (e2 addM (eVar 5) (eC (.int 1))) (aNil)))) (fLst (aNil))) (sSeq (sFor (iRange1 (aCons (eVar 1) (aNil))) (.nm 7) (sSeq (sSet 10 (e2 addM (e2 addM (eSl (eVar 6) oNo (oSo (eVar 8))) (e2 ixM (eVar 2) (eCall 2 m_law_draw (aCons (eVar 0) (aCons (eC (.int 26)) (aNil)))))) (eSl (eVar 6) (oSo (eVar 8)) oNo))) (sSeq (sIf (tBl (e2 eqM (eVar 4) (eC (.int 1)))) (sSet 10 (eCall 2 m_law_pick (aCons (eVar 0) (aCons (eVar 3) (aNil))))) (sNil)) (sSeq (sIf (tBl (e2 eqM (eVar 4) (eC (.int 2)))) (sSet 10 (eM1 joinM (eC (.str "")) (eL (eLc (iRange1 (aCons (e2 addM (eC (.int 1)) (eCall 2 m_law_draw (aCons (eVar 0) (aCons (eC (.int 8)) (aNil))))) (aNil))) (.nm 11) [11] (tTrue) (e2 ixM (eVar 2) (eCall 2 m_law_draw (aCons (eVar 0) (aCons (eC (.int 26)) (aNil))))))))) (sNil)) (sSeq (sIf (tBl (e2 inM (eVar 10) (eLook 9))) (sSet 10 (e2 ixM (eL (eLc (iSeq (eVar 2)) (.nm 12) [12] (tBl (e2 notInM (eVar 12) (eLook 9))) (eVar 12))) (eC (.int 0)))) (sNil)) (sApp 9 (eVar 10))))))) (sFrz 9 (sRet (eVar 9))))))))
def m_law_names : List D → M D := runB 13 s_law_names
def s_law_spots : En → M (Fl × En) := sSeq (sSet 1 (e2 addM (e2 mulM (eCall 2 m_law_draw (aCons (eVar 0) (aCons (eC (.int 1000000)) (aNil)))) (e2 powM (eC (.int 10)) (eC (.int 54)))) (eCall 2 m_law_draw (aCons (eVar 0) (aCons (eC (.int 1000000)) (aNil)))))) (sSeq (sSet 2 (eLst (aCons (eC (.int 0)) (aCons (eC (.int 1)) (aCons (eC (.int 2)) (aCons (e2 addM (eC (.int 9)) (eCall 2 m_law_draw (aCons (eVar 0) (aCons (eC (.int 3)) (aNil))))) (aCons (eC (.int 3)) (aCons (eVar 1) (aCons (eCall 2 m_law_draw (aCons (eVar 0) (aCons (eC (.int 1000)) (aNil)))) (aCons (e2 addM (eC (.int 98)) (eCall 2 m_law_draw (aCons (eVar 0) (aCons (eC (.int 4)) (aNil))))) (aNil))))))))))) (sSeq (sSet 3 (eCall 2 m_law_draw (aCons (eVar 0) (aCons (eC (.int 8)) (aNil))))) (sRet (eSl (e2 addM (eVar 2) (eVar 2)) (oSo (eVar 3)) (oSo (e2 addM (e2 addM (eVar 3) (eC (.int 1))) (eCall 2 m_law_draw (aCons (eVar 0) (aCons (eC (.int 8)) (aNil))))))))))
def m_law_spots : List D → M D := runB 4 s_law_spots
def s_law_doings : En → M (Fl × En) := sSeq (sOwn 3 (fLst (aCons (eTup (aCons (eC (.str "do")) (aCons (e2 ixM (eVar 2) (eC (.int 0))) (aNil)))) (aCons (eTup (aCons (eC (.str "do")) (aCons (e2 ixM (eVar 2) (eC (.int 1))) (aNil)))) (aNil))))) (sSeq (sFor (iSeq (eVar 1)) (.tp [4, 5, 6, 7]) (sIf (tBl (e2 inM (eVar 0) (eTup (aCons (eVar 5) (aCons (eVar 6) (aNil)))))) (sExt 3 (eL (eLc (iSeq (eVar 2)) (.nm 8) [8] (tTrue) (eTup (aCons (eIf (tBl (e2 eqM (eVar 0) (eVar 5))) (eC (.str "put")) (eC (.str "take"))) (aCons (eVar 4) (aCons (eVar 8) (aNil)))))))) (sNil))) (sFrz 3 (sRet (eVar 3))))
def m_law_doings : List D → M D := runB 9 s_law_doings
def s_law_party : En → M (Fl × En) := sSeq (sOwn 4 (fLst (aNil))) (sSeq (sFor (iRange1 (aCons (eCall 2 m_law_draw (aCons (eVar 0) (aCons (eC (.int 5)) (aNil)))) (aNil))) (.nm 5) (sSeq (sSet 6 (eTup (aCons (eCall 2 m_law_pick (aCons (eVar 0) (aCons (eVar 3) (aNil)))) (aCons (eCall 2 m_law_pick (aCons (eVar 0) (aCons (eVar 2) (aNil)))) (aCons (eCall 2 m_law_pick (aCons (eVar 0) (aCons (eVar 3) (aNil)))) (aNil)))))) (sIf (tBl (e2 notInM (eVar 6) (eLook 4))) (sApp 4 (eVar 6)) (sNil)))) (sSeq (sSet 7 (e1 ssetM (eL (eLc (iRange1 (aCons (eCall 2 m_law_draw (aCons (eVar 0) (aCons (eC (.int 4)) (aNil)))) (aNil))) (.nm 5) [5] (tTrue) (eCall 2 m_law_pick (aCons (eVar 0) (aCons (eVar 3) (aNil)))))))) (sRet (eTup (aCons (eVar 1) (aCons (e1 tupM (eVar 7)) (aCons (e1 tupM (eLook 4)) (aNil))))))))
def m_law_party : List D → M D := runB 8 s_law_party
def s_law_built : En → M (Fl × En) := sSeq (sSet 1 (e1 sortedM (eCall 2 m_law_names (aCons (eVar 0) (aCons (e2 ixM (eLst (aCons (eC (.int 3)) (aCons (eC (.int 2)) (aCons (eC (.int 4)) (aCons (eC (.int 2)) (aCons (eC (.int 3)) (aCons (eC (.int 1)) (aCons (eC (.int 0)) (aCons (eC (.int 2)) (aNil)))))))))) (eCall 2 m_law_draw (aCons (eVar 0) (aCons (eC (.int 8)) (aNil))))) (aNil)))))) (sSeq (sUn (.tp [2, 3, 4]) (eTup (aCons (eCall 2 m_law_names (aCons (eVar 0) (aCons (eC (.int 6)) (aNil)))) (aCons (eCall 2 m_law_names (aCons (eVar 0) (aCons (eC (.int 3)) (aNil)))) (aCons (eCall 1 m_law_spots (aCons (eVar 0) (aNil))) (aNil)))))) (sSeq (sIf (tBl (e2 eqM (eCall 2 m_law_draw (aCons (eVar 0) (aCons (eC (.int 3)) (aNil)))) (eC (.int 0)))) (sSet 2 (e2 addM (eVar 1) (eL (eLc (iSeq (eVar 2)) (.nm 5) [5] (tBl (e2 notInM (eVar 5) (eVar 1))) (eVar 5))))) (sNil)) (sSeq (sOwn 6 (fLst (aNil))) (sSeq (sFor (iSeq (e1 sortedM (eSl (eVar 2) oNo (oSo (eIf (tBl (e2 gtM (e1 lenM (eVar 1)) (eC (.int 1)))) (e2 ixM (eLst (aCons (eC (.int 2)) (aCons (eC (.int 3)) (aCons (eC (.int 1)) (aCons (eC (.int 4)) (aCons (eC (.int 0)) (aCons (eC (.int 6)) (aNil)))))))) (eCall 2 m_law_draw (aCons (eVar 0) (aCons (eC (.int 6)) (aNil))))) (eC (.int 0))))))) (.nm 5) (sSeq (sSet 7 (eCall 2 m_law_draw (aCons (eVar 0) (aCons (e1 lenM (eVar 1)) (aNil))))) (sSeq (sSet 8 (e2 modM (e1 intM (e2 addM (e2 addM (eVar 7) (eC (.int 1))) (eCall 2 m_law_draw (aCons (eVar 0) (aCons (e2 subM (e1 lenM (eVar 1)) (eC (.int 1))) (aNil)))))) (e1 lenM (eVar 1)))) (sApp 6 (eTup (aCons (eVar 5) (aCons (e2 ixM (eVar 1) (eVar 7)) (aCons (e2 ixM (eVar 1) (eVar 8)) (aCons (eCall 2 m_law_pick (aCons (eVar 0) (aCons (eLst (aCons (eC (.str "queue")) (aCons (eC (.str "bag")) (aCons (eC (.str "call")) (aNil))))) (aNil)))) (aNil)))))))))) (sSeq (sFrz 6 (sSet 9 (eL (eLc (iSeq (eVar 1)) (.nm 10) [10] (tTrue) (eCall 4 m_law_party (aCons (eVar 0) (aCons (eVar 10) (aCons (eCall 3 m_law_doings (aCons (eVar 10) (aCons (eVar 6) (aCons (eVar 3) (aNil))))) (aCons (eVar 4) (aNil)))))))))) (sRet (eTup (aCons (e1 tupM (eVar 9)) (aCons (e1 tupM (eLook 6)) (aNil))))))))))
def m_law_built : List D → M D := runB 11 s_law_built
end PG

set_option linter.all false
set_option maxRecDepth 100000
set_option maxHeartbeats 4000000
/-! PG1: what the drawing defs give. -/
namespace PG
open PySem PySem.Spec L2 PL
def feedOb (cs : List Int) (a r m : Int) : Ob := .dict [(.inr "cells", .lst (cs.map D.int)), (.inr "at", .int a), (.inr "rest", .int r), (.inr "made", .int m)]
/-- the feed stands in the store at n -/
def FOk (n : Nat) (st : Sto) : Prop := ∃ cs a r m, st[n]? = some (feedOb cs a r m) ∧ cs.length ≤ 63 ∧ 0 ≤ a ∧ 0 ≤ r
theorem v_cells {cs : List Int} {a r m : Int} : valD (.inr "cells") [(.inr "cells", .lst (cs.map D.int)), (.inr "at", .int a), (.inr "rest", .int r), (.inr "made", .int m)] = some (.lst (cs.map D.int)) := rfl
example : (Sum.inr "cells" : Key) ≠ .inr "at" := by decide
theorem v_at {cs : List Int} {a r m : Int} : valD (.inr "at") [(.inr "cells", .lst (cs.map D.int)), (.inr "at", .int a), (.inr "rest", .int r), (.inr "made", .int m)] = some (.int a) := rfl
theorem v_rest {cs : List Int} {a r m : Int} : valD (.inr "rest") [(.inr "cells", .lst (cs.map D.int)), (.inr "at", .int a), (.inr "rest", .int r), (.inr "made", .int m)] = some (.int r) := rfl
theorem v_made {cs : List Int} {a r m : Int} : valD (.inr "made") [(.inr "cells", .lst (cs.map D.int)), (.inr "at", .int a), (.inr "rest", .int r), (.inr "made", .int m)] = some (.int m) := rfl
theorem p_at {cs : List Int} {a r m x : Int} : Ob.dict (putD [(.inr "cells", .lst (cs.map D.int)), (.inr "at", .int a), (.inr "rest", .int r), (.inr "made", .int m)] (.inr "at") (.int x)) = feedOb cs x r m := rfl
theorem p_rest {cs : List Int} {a r m x : Int} : Ob.dict (putD [(.inr "cells", .lst (cs.map D.int)), (.inr "at", .int a), (.inr "rest", .int r), (.inr "made", .int m)] (.inr "rest") (.int x)) = feedOb cs a x m := rfl
theorem p_made {cs : List Int} {a r m x : Int} : Ob.dict (putD [(.inr "cells", .lst (cs.map D.int)), (.inr "at", .int a), (.inr "rest", .int r), (.inr "made", .int m)] (.inr "made") (.int x)) = feedOb cs a r x := rfl
theorem four : (4 : Nat) < sizeLine := by decide
/-- a look into the feed -/
theorem wp_get {n : Nat} {st : Sto} {k : Str} {Q : D → Sto → Prop} {cs : List Int} {a r m : Int} {d : D} (h : st[n]? = some (feedOb cs a r m)) (hv : valD (.inr k) [(.inr "cells", .lst (cs.map D.int)), (.inr "at", .int a), (.inr "rest", .int r), (.inr "made", .int m)] = some d) (q : Q d st) : wp (dgM (.ref n) (.str k)) Q st := by
  show wp ((dictAt n).bind fun kvs => opt (valD (.inr k) kvs)) Q st
  rw [wp_bind, wp_dictAt]
  exact ⟨_, h, by rw [hv, wp_some]; exact q⟩
theorem wp_setF {n : Nat} {st : Sto} {k : Str} {d : D} {Q : Unit → Sto → Prop} {cs : List Int} {a r m : Int} {o : Ob} (h : st[n]? = some (feedOb cs a r m)) (hp : Ob.dict (putD [(.inr "cells", .lst (cs.map D.int)), (.inr "at", .int a), (.inr "rest", .int r), (.inr "made", .int m)] (.inr k) d) = o) (q : Q () (st.set n o)) : wp (dpM (.ref n) (.str k) d) Q st := by
  show wp ((dictAt n).bind fun kvs => guardM (decide (kvs.length < sizeLine)) (setAt n (.dict (putD kvs (.inr k) d)))) Q st
  rw [wp_bind, wp_dictAt]
  refine ⟨_, h, ?_⟩
  rw [wp_guard, wp_setAt, hp]
  exact ⟨decide_eq_true four, q⟩
theorem feed_set {n : Nat} {st : Sto} {o o' : Ob} (h : st[n]? = some o') : (st.set n o)[n]? = some o := List.getElem?_set_self (List.getElem?_eq_some_iff.mp h).1
theorem wp_setG {n : Nat} {st : Sto} {k : Str} {d : D} {Q : Unit → Sto → Prop} {cs : List Int} {a r m : Int} {o : Ob} (h : st[n]? = some (feedOb cs a r m)) (hp : Ob.dict (putD [(.inr "cells", .lst (cs.map D.int)), (.inr "at", .int a), (.inr "rest", .int r), (.inr "made", .int m)] (.inr k) d) = o)
    (q : ∀ st', st'[n]? = some o → Same n st st' → Q () st') : wp (dpM (.ref n) (.str k) d) Q st := wp_setF h hp (q _ (feed_set h) ((Same.refl n st).set))
theorem set_made {n : Nat} {st : Sto} {x : Int} {Q : Unit → Sto → Prop} {cs : List Int} {a r m : Int} (h : st[n]? = some (feedOb cs a r m)) (q : ∀ st', st'[n]? = some (feedOb cs a r x) → Same n st st' → Q () st') : wp (dpM (.ref n) (.str "made") (.int x)) Q st := wp_setG h rfl q
theorem set_at {n : Nat} {st : Sto} {x : Int} {Q : Unit → Sto → Prop} {cs : List Int} {a r m : Int} (h : st[n]? = some (feedOb cs a r m)) (q : ∀ st', st'[n]? = some (feedOb cs x r m) → Same n st st' → Q () st') : wp (dpM (.ref n) (.str "at") (.int x)) Q st := wp_setG h rfl q
theorem set_rest {n : Nat} {st : Sto} {x : Int} {Q : Unit → Sto → Prop} {cs : List Int} {a r m : Int} (h : st[n]? = some (feedOb cs a r m)) (q : ∀ st', st'[n]? = some (feedOb cs a x m) → Same n st st' → Q () st') : wp (dpM (.ref n) (.str "rest") (.int x)) Q st := wp_setG h rfl q
theorem get_cells {n : Nat} {st : Sto} {Q : D → Sto → Prop} {cs : List Int} {a r m : Int} (h : st[n]? = some (feedOb cs a r m)) (q : Q (.lst (cs.map D.int)) st) : wp (dgM (.ref n) (.str "cells")) Q st := wp_get h v_cells q
theorem get_at {n : Nat} {st : Sto} {Q : D → Sto → Prop} {cs : List Int} {a r m : Int} (h : st[n]? = some (feedOb cs a r m)) (q : Q (.int a) st) : wp (dgM (.ref n) (.str "at")) Q st := wp_get h v_at q
theorem get_rest {n : Nat} {st : Sto} {Q : D → Sto → Prop} {cs : List Int} {a r m : Int} (h : st[n]? = some (feedOb cs a r m)) (q : Q (.int r) st) : wp (dgM (.ref n) (.str "rest")) Q st := wp_get h v_rest q
theorem get_made {n : Nat} {st : Sto} {Q : D → Sto → Prop} {cs : List Int} {a r m : Int} (h : st[n]? = some (feedOb cs a r m)) (q : Q (.int m) st) : wp (dgM (.ref n) (.str "made")) Q st := wp_get h v_made q
end PG

set_option hygiene false
local macro_rules | `(tactic| subst_eqs) => `(tactic| repeat (first | ((with_reducible apply w_var); exact rfl) | ((with_reducible apply w_look); exact rfl) | ((with_reducible apply w_lookV); exact rfl) | with_reducible (first | refine k_seq ?_ | refine k_seqR ?_ | refine k_run ?_ | refine k_runN ?_ | refine k_bl ?_ | refine k_str ?_ | refine k_int ?_ | refine k_ifT ?_ | refine k_ifF ?_ | refine k_ifnF ?_ | refine k_ifnT ?_ | refine w_seq ?_ | refine w_dput ?_ | refine w_e2 ?_ | refine w_e1 ?_ | refine w_c ?_ | refine w_addI ?_ | refine w_if ?_ | refine w_tBl ?_ | refine w_gtI ?_ | refine w_ltI ?_ | refine w_leI ?_ | refine w_geI ?_ | refine w_ret ?_ | refine w_nil ?_ | refine w_pass ?_ | refine w_expr ?_ | refine w_lenL ?_ | refine w_lenT ?_ | refine w_intI ?_ | refine w_eIf ?_ | refine w_tAn ?_ | refine w_tOr ?_ | refine w_tNt ?_ | refine w_vAnd ?_ | refine w_vOr ?_ | refine w_vNot ?_ | refine w_eCh ?_ | refine w_neg ?_ | refine w_oNo ?_ | refine w_oSo ?_ | refine w_sl ?_ | refine w_m1 ?_ | refine w_aN ?_ | refine w_aC ?_ | refine w_eL ?_ | refine w_call ?_ | refine w_true ?_ | refine w_slL ?_ | refine w_slT ?_ | refine w_slF ?_ | refine w_tupL ?_ | refine w_tupT ?_ | refine w_frz ?_ | refine w_iR1 ?_ | refine w_iSeq ?_ | refine w_for ?_ | refine w_lc ?_ | refine w_tup ?_ | refine w_lst ?_ | refine w_fLst ?_ | refine w_un ?_ | refine w_dict ?_ | refine w_aLn ?_ | refine i_tuple_NoneType ?_ | refine i_tuple_bool ?_ | refine i_tuple_int ?_ | refine i_tuple_str ?_ | refine i_tuple_tuple ?_ | refine i_tuple_list ?_ | refine i_str_NoneType ?_ | refine i_str_bool ?_ | refine i_str_int ?_ | refine i_str_str ?_ | refine i_str_tuple ?_ | refine i_str_list ?_ | refine i_int_NoneType ?_ | refine i_int_bool ?_ | refine i_int_int ?_ | refine i_int_str ?_ | refine i_int_tuple ?_ | refine i_int_list ?_ | refine i_bool_NoneType ?_ | refine i_bool_bool ?_ | refine i_bool_int ?_ | refine i_bool_str ?_ | refine i_bool_tuple ?_ | refine i_bool_list ?_ | refine i_list_NoneType ?_ | refine i_list_bool ?_ | refine i_list_int ?_ | refine i_list_str ?_ | refine i_list_tuple ?_ | refine i_list_list ?_ | refine n_is_NoneType ?_ | refine n_not_NoneType ?_ | refine n_is_bool ?_ | refine n_not_bool ?_ | refine n_is_int ?_ | refine n_not_int ?_ | refine n_is_str ?_ | refine n_not_str ?_ | refine n_is_tuple ?_ | refine n_not_tuple ?_ | refine n_is_list ?_ | refine n_not_list ?_) | ((with_reducible apply w_app); exact rfl) | ((with_reducible apply w_ext); exact rfl) | with_reducible refine w_set (by decide) ?_ | with_reducible refine w_own (by decide) ?_ | with_reducible refine w_set (by simp) ?_ | with_reducible refine w_own (by simp) ?_ | with_reducible refine w_par (by simp) (by simp) ?_ | with_reducible refine w_parO (by simp) (by simp) ?_))
local macro_rules | `(tactic| and_intros) => `(tactic| repeat (first | ((with_reducible apply w_var); exact rfl) | ((with_reducible apply w_look); exact rfl) | ((with_reducible apply w_lookV); exact rfl) | with_reducible (first | refine k_seq ?_ | refine k_seqR ?_ | refine k_run ?_ | refine k_runN ?_ | refine k_bl ?_ | refine k_str ?_ | refine k_int ?_ | refine k_ifT ?_ | refine k_ifF ?_ | refine k_ifnF ?_ | refine k_ifnT ?_ | refine w_seq ?_ | refine w_dput ?_ | refine w_e2 ?_ | refine w_e1 ?_ | refine w_c ?_ | refine w_addI ?_ | refine w_if ?_ | refine w_tBl ?_ | refine w_gtI ?_ | refine w_ltI ?_ | refine w_leI ?_ | refine w_geI ?_ | refine w_ret ?_ | refine w_nil ?_ | refine w_pass ?_ | refine w_expr ?_ | refine w_lenL ?_ | refine w_lenT ?_ | refine w_intI ?_ | refine w_eIf ?_ | refine w_tAn ?_ | refine w_tOr ?_ | refine w_tNt ?_ | refine w_vAnd ?_ | refine w_vOr ?_ | refine w_vNot ?_ | refine w_eCh ?_ | refine w_neg ?_ | refine w_oNo ?_ | refine w_oSo ?_ | refine w_sl ?_ | refine w_m1 ?_ | refine w_aN ?_ | refine w_aC ?_ | refine w_eL ?_ | refine w_call ?_ | refine w_true ?_ | refine w_slL ?_ | refine w_slT ?_ | refine w_slF ?_ | refine w_tupL ?_ | refine w_tupT ?_ | refine w_frz ?_ | refine w_iR1 ?_ | refine w_iSeq ?_ | refine w_for ?_ | refine w_lc ?_ | refine w_tup ?_ | refine w_lst ?_ | refine w_fLst ?_ | refine w_un ?_ | refine w_dict ?_ | refine w_aLn ?_ | refine i_tuple_NoneType ?_ | refine i_tuple_bool ?_ | refine i_tuple_int ?_ | refine i_tuple_str ?_ | refine i_tuple_tuple ?_ | refine i_tuple_list ?_ | refine i_str_NoneType ?_ | refine i_str_bool ?_ | refine i_str_int ?_ | refine i_str_str ?_ | refine i_str_tuple ?_ | refine i_str_list ?_ | refine i_int_NoneType ?_ | refine i_int_bool ?_ | refine i_int_int ?_ | refine i_int_str ?_ | refine i_int_tuple ?_ | refine i_int_list ?_ | refine i_bool_NoneType ?_ | refine i_bool_bool ?_ | refine i_bool_int ?_ | refine i_bool_str ?_ | refine i_bool_tuple ?_ | refine i_bool_list ?_ | refine i_list_NoneType ?_ | refine i_list_bool ?_ | refine i_list_int ?_ | refine i_list_str ?_ | refine i_list_tuple ?_ | refine i_list_list ?_ | refine n_is_NoneType ?_ | refine n_not_NoneType ?_ | refine n_is_bool ?_ | refine n_not_bool ?_ | refine n_is_int ?_ | refine n_not_int ?_ | refine n_is_str ?_ | refine n_not_str ?_ | refine n_is_tuple ?_ | refine n_not_tuple ?_ | refine n_is_list ?_ | refine n_not_list ?_) | ((with_reducible apply w_app); exact rfl) | ((with_reducible apply w_ext); exact rfl) | with_reducible refine w_set (by decide) ?_ | with_reducible refine w_own (by decide) ?_ | with_reducible refine w_set (by simp) ?_ | with_reducible refine w_own (by simp) ?_ | with_reducible refine w_par (by simp) (by simp) ?_ | with_reducible refine w_parO (by simp) (by simp) ?_ | ((with_reducible apply get_cells); assumption) | ((with_reducible apply get_at); assumption) | ((with_reducible apply get_rest); assumption) | ((with_reducible apply get_made); assumption)))
local macro_rules | `(tactic| symm_saturate) => `(tactic| repeat (first | ((with_reducible apply w_var); exact rfl) | ((with_reducible apply w_look); exact rfl) | ((with_reducible apply w_lookV); exact rfl) | with_reducible (first | refine k_seq ?_ | refine k_seqR ?_ | refine k_run ?_ | refine k_runN ?_ | refine k_bl ?_ | refine k_str ?_ | refine k_int ?_ | refine k_ifT ?_ | refine k_ifF ?_ | refine k_ifnF ?_ | refine k_ifnT ?_ | refine w_seq ?_ | refine w_dput ?_ | refine w_e2 ?_ | refine w_e1 ?_ | refine w_c ?_ | refine w_addI ?_ | refine w_if ?_ | refine w_tBl ?_ | refine w_gtI ?_ | refine w_ltI ?_ | refine w_leI ?_ | refine w_geI ?_ | refine w_ret ?_ | refine w_nil ?_ | refine w_pass ?_ | refine w_expr ?_ | refine w_lenL ?_ | refine w_lenT ?_ | refine w_intI ?_ | refine w_eIf ?_ | refine w_tAn ?_ | refine w_tOr ?_ | refine w_tNt ?_ | refine w_vAnd ?_ | refine w_vOr ?_ | refine w_vNot ?_ | refine w_eCh ?_ | refine w_neg ?_ | refine w_oNo ?_ | refine w_oSo ?_ | refine w_sl ?_ | refine w_m1 ?_ | refine w_aN ?_ | refine w_aC ?_ | refine w_eL ?_ | refine w_call ?_ | refine w_true ?_ | refine w_slL ?_ | refine w_slT ?_ | refine w_slF ?_ | refine w_tupL ?_ | refine w_tupT ?_ | refine w_frz ?_ | refine w_iR1 ?_ | refine w_iSeq ?_ | refine w_for ?_ | refine w_lc ?_ | refine w_tup ?_ | refine w_lst ?_ | refine w_fLst ?_ | refine w_un ?_ | refine w_dict ?_ | refine w_aLn ?_ | refine n_is_NoneType ?_ | refine n_not_NoneType ?_ | refine i_tuple_NoneType ?_ | refine i_tuple_bool ?_ | refine i_tuple_int ?_ | refine i_tuple_str ?_ | refine i_tuple_tuple ?_ | refine i_tuple_list ?_) | ((with_reducible apply w_app); exact rfl) | ((with_reducible apply w_ext); exact rfl) | with_reducible refine w_set (by decide) ?_ | with_reducible refine w_own (by decide) ?_ | with_reducible refine w_set (by simp) ?_ | with_reducible refine w_own (by simp) ?_ | with_reducible refine w_par (by simp) (by simp) ?_ | with_reducible refine w_parO (by simp) (by simp) ?_ | ((with_reducible apply x_var); exact rfl) | ((with_reducible apply x_look); exact rfl) | ((with_reducible apply x_lookV); exact rfl) | with_reducible (first | refine kx_seq ?_ | refine kx_seqR ?_ | refine x_seq ?_ | refine x_if ?_ | refine x_ret ?_ | refine x_nil ?_ | refine x_pass ?_ | refine x_expr ?_ | refine x_eL ?_ | refine x_call ?_ | refine x_tBl ?_ | refine x_tNt ?_ | refine x_tAn ?_ | refine x_tOr ?_ | refine x_eIf ?_ | refine x_aN ?_ | refine x_aC ?_ | refine x_tup ?_ | refine x_lst ?_ | refine x_fLst ?_ | refine x_un ?_ | refine x_for ?_ | refine x_iSeq ?_ | refine x_e1 ?_ | refine x_e2 ?_ | refine x_c ?_ | refine x_sl ?_ | refine x_oNo ?_ | refine x_oSo ?_ | refine x_neg ?_ | refine x_raise ?_ | refine x_star ?_ | refine x_frz ?_ | refine x_true ?_ | refine x_lc ?_ | refine x_lc2 ?_) | with_reducible (first | refine wp.x (m := ixM _ _) ?_ | refine wp.x (m := lenM _) ?_ | refine wp.x (m := eqM _ _) ?_ | refine wp.x (m := neM _ _) ?_ | refine wp.x (m := inM _ _) ?_ | refine wp.x (m := notInM _ _) ?_ | refine wp.x (m := isNM _) ?_ | refine wp.x (m := notNM _) ?_ | refine wp.x (m := tupM _) ?_ | refine wp.x (m := lstM _) ?_ | refine wp.x (m := ssetA _) ?_ | refine wp.x (m := slM _ _ _) ?_ | refine wp.x (m := isiM _ _) ?_ | refine wp.x (m := geM _ _) ?_ | refine wp.x (m := gtM _ _) ?_ | refine wp.x (m := ltM _ _) ?_ | refine wp.x (m := leM _ _) ?_) | ((with_reducible apply x_app); exact rfl) | ((with_reducible apply x_ext); exact rfl) | with_reducible refine x_set (by decide) ?_ | with_reducible refine x_own (by decide) ?_ | with_reducible refine x_set (by simp) ?_ | with_reducible refine x_own (by simp) ?_))
local macro_rules | `(tactic| false_or_by_contra) => `(tactic| repeat (first | ((with_reducible apply w_var); exact rfl) | ((with_reducible apply w_look); exact rfl) | ((with_reducible apply w_lookV); exact rfl) | with_reducible (first | refine k_seq ?_ | refine k_seqR ?_ | refine k_run ?_ | refine k_runN ?_ | refine k_bl ?_ | refine k_str ?_ | refine k_int ?_ | refine k_ifT ?_ | refine k_ifF ?_ | refine k_ifnF ?_ | refine k_ifnT ?_ | refine w_seq ?_ | refine w_dput ?_ | refine w_e2 ?_ | refine w_e1 ?_ | refine w_c ?_ | refine w_addI ?_ | refine w_if ?_ | refine w_tBl ?_ | refine w_gtI ?_ | refine w_ltI ?_ | refine w_leI ?_ | refine w_geI ?_ | refine w_ret ?_ | refine w_nil ?_ | refine w_pass ?_ | refine w_expr ?_ | refine w_lenL ?_ | refine w_lenT ?_ | refine w_intI ?_ | refine w_eIf ?_ | refine w_tAn ?_ | refine w_tOr ?_ | refine w_tNt ?_ | refine w_vAnd ?_ | refine w_vOr ?_ | refine w_vNot ?_ | refine w_eCh ?_ | refine w_neg ?_ | refine w_oNo ?_ | refine w_oSo ?_ | refine w_sl ?_ | refine w_m1 ?_ | refine w_aN ?_ | refine w_aC ?_ | refine w_eL ?_ | refine w_call ?_ | refine w_true ?_ | refine w_slL ?_ | refine w_slT ?_ | refine w_slF ?_ | refine w_tupL ?_ | refine w_tupT ?_ | refine w_frz ?_ | refine w_iR1 ?_ | refine w_iSeq ?_ | refine w_for ?_ | refine w_lc ?_ | refine w_tup ?_ | refine w_lst ?_ | refine w_fLst ?_ | refine w_un ?_ | refine w_dict ?_ | refine w_aLn ?_ | refine n_is_NoneType ?_ | refine n_not_NoneType ?_ | refine i_tuple_NoneType ?_ | refine i_tuple_bool ?_ | refine i_tuple_int ?_ | refine i_tuple_str ?_ | refine i_tuple_tuple ?_ | refine i_tuple_list ?_) | ((with_reducible apply w_app); exact rfl) | ((with_reducible apply w_ext); exact rfl) | with_reducible refine w_set (by decide) ?_ | with_reducible refine w_own (by decide) ?_ | with_reducible refine w_set (by simp) ?_ | with_reducible refine w_own (by simp) ?_ | with_reducible refine w_par (by simp) (by simp) ?_ | with_reducible refine w_parO (by simp) (by simp) ?_))
local macro_rules | `(tactic| norm_cast0) => `(tactic| repeat (first | ((with_reducible apply w_var); exact rfl) | ((with_reducible apply w_look); exact rfl) | ((with_reducible apply w_lookV); exact rfl) | with_reducible (first | refine k_seq ?_ | refine k_seqR ?_ | refine k_run ?_ | refine k_runN ?_ | refine k_bl ?_ | refine k_str ?_ | refine k_int ?_ | refine k_ifT ?_ | refine k_ifF ?_ | refine k_ifnF ?_ | refine k_ifnT ?_ | refine w_seq ?_ | refine w_dput ?_ | refine w_e2 ?_ | refine w_e1 ?_ | refine w_c ?_ | refine w_addI ?_ | refine w_if ?_ | refine w_tBl ?_ | refine w_gtI ?_ | refine w_ltI ?_ | refine w_leI ?_ | refine w_geI ?_ | refine w_ret ?_ | refine w_nil ?_ | refine w_pass ?_ | refine w_expr ?_ | refine w_lenL ?_ | refine w_lenT ?_ | refine w_intI ?_ | refine w_eIf ?_ | refine w_tAn ?_ | refine w_tOr ?_ | refine w_tNt ?_ | refine w_vAnd ?_ | refine w_vOr ?_ | refine w_vNot ?_ | refine w_eCh ?_ | refine w_neg ?_ | refine w_oNo ?_ | refine w_oSo ?_ | refine w_sl ?_ | refine w_m1 ?_ | refine w_aN ?_ | refine w_aC ?_ | refine w_eL ?_ | refine w_call ?_ | refine w_true ?_ | refine w_slL ?_ | refine w_slT ?_ | refine w_slF ?_ | refine w_tupL ?_ | refine w_tupT ?_ | refine w_frz ?_ | refine w_iR1 ?_ | refine w_iSeq ?_ | refine w_for ?_ | refine w_lc ?_ | refine w_tup ?_ | refine w_lst ?_ | refine w_fLst ?_ | refine w_un ?_ | refine w_dict ?_ | refine w_aLn ?_ | refine i_tuple_NoneType ?_ | refine i_tuple_bool ?_ | refine i_tuple_int ?_ | refine i_tuple_str ?_ | refine i_tuple_tuple ?_ | refine i_tuple_list ?_ | refine i_str_NoneType ?_ | refine i_str_bool ?_ | refine i_str_int ?_ | refine i_str_str ?_ | refine i_str_tuple ?_ | refine i_str_list ?_ | refine i_int_NoneType ?_ | refine i_int_bool ?_ | refine i_int_int ?_ | refine i_int_str ?_ | refine i_int_tuple ?_ | refine i_int_list ?_ | refine i_bool_NoneType ?_ | refine i_bool_bool ?_ | refine i_bool_int ?_ | refine i_bool_str ?_ | refine i_bool_tuple ?_ | refine i_bool_list ?_ | refine i_list_NoneType ?_ | refine i_list_bool ?_ | refine i_list_int ?_ | refine i_list_str ?_ | refine i_list_tuple ?_ | refine i_list_list ?_ | refine n_is_NoneType ?_ | refine n_not_NoneType ?_ | refine n_is_bool ?_ | refine n_not_bool ?_ | refine n_is_int ?_ | refine n_not_int ?_ | refine n_is_str ?_ | refine n_not_str ?_ | refine n_is_tuple ?_ | refine n_not_tuple ?_ | refine n_is_list ?_ | refine n_not_list ?_) | ((with_reducible apply w_app); exact rfl) | ((with_reducible apply w_ext); exact rfl) | with_reducible refine w_set (by decide) ?_ | with_reducible refine w_own (by decide) ?_ | with_reducible refine w_set (by simp) ?_ | with_reducible refine w_own (by simp) ?_ | with_reducible refine w_par (by simp) (by simp) ?_ | with_reducible refine w_parO (by simp) (by simp) ?_))
set_option hygiene true

set_option linter.all false
set_option maxRecDepth 100000
set_option maxHeartbeats 4000000
namespace PG
open PySem PySem.Spec L2 PL
theorem shp_ints (cs : List Int) : (D.lst (cs.map D.int)).shp = true := (shp_lst fun d hd => by
  obtain ⟨i, _, rfl⟩ := List.mem_map.mp hd
  exact shp_int).shp
theorem shp_nil : (D.lst []).shp = true := by decide
theorem spec_draw {n : Nat} {st : Sto} {many : Int} {Q : D → Sto → Prop} (h : FOk n st) (h0 : 0 < many) (h1 : many < 1073741824) (q : ∀ z st', 0 ≤ z → z < many → FOk n st' → Same n st st' → Q (.int z) st') : wp (m_law_draw [.ref n, .int many]) Q st := by
  obtain ⟨cs, a, r, m, hs, hl, ha, hr⟩ := h
  refine w_run' [.val (.ref n), .val (.int many), .no, .no, .no, .no, .no] rfl ?_
  unfold s_law_draw
  and_intros
  with_reducible apply set_made
  assumption
  intro st1 hs1 sm1
  and_intros
  refine k_if (fun hb => ?_) fun hb => ?_
  · and_intros
    refine w_int2 (decide_eq_true h0) ?_
    and_intros
    refine w_int2 (decide_eq_true ⟨h0, h1⟩) ?_
    and_intros
    with_reducible apply set_rest
    assumption
    intro st2 hs2 sm2
    and_intros
    exact q _ _ (Int.emod_nonneg _ (by omega)) (Int.emod_lt_of_pos _ h0) ⟨cs, a, _, _, hs2, hl, ha, Int.ediv_nonneg hr (by omega)⟩ (sm1.trans sm2)
  · and_intros
    with_reducible apply set_at
    assumption
    intro st2 hs2 sm2
    have fin : ∀ z st', 0 ≤ z → z < many → FOk n st' → Same n st2 st' → Q (.int z) st' := fun z st' z0 z1 f s => q z st' z0 z1 f ((sm1.trans sm2).trans s)
    have ok2 : FOk n st2 := ⟨cs, a + 1, r, m + 1, hs2, hl, by omega, hr⟩
    have tail : ∀ c : Int, wp (sSeq (sSet 6 (e2 modM (e1 intM (e2 addM (e2 addM (e2 modM (e1 intM (eVar 5)) (eC (.int 1000000403))) (e2 mulM (eC (.int 70001)) (e2 dgM (eVar 0) (eC (.str "made"))))) (eC (.int 97)))) (eC (.int 2147483587)))) (sSeq (sSet 6 (e2 modM (e1 intM (e2 addM (e2 addM (e2 mulM (eVar 6) (eVar 6)) (e2 mulM (eC (.int 3900017)) (e2 dgM (eVar 0) (eC (.str "made"))))) (eC (.int 31)))) (eC (.int 2147483563)))) (sSeq (sSet 6 (e2 modM (e1 intM (e2 addM (e2 mulM (eVar 6) (eVar 6)) (e2 mulM (eC (.int 307)) (eVar 6)))) (eC (.int 2147483497)))) (sRet (e2 modM (e1 intM (e2 fdivM (eVar 6) (eC (.int 32)))) (eVar 1))))) [.val (.ref n), .val (.int many), .no, .val (.lst (cs.map D.int)), .val (.int a), .val (.int c), .no]) (RunK Q) st2 := fun c => by
      and_intros
      refine w_int2 (by decide) ?_
      and_intros
      refine w_int2 (decide_eq_true (.inl (by decide))) ?_
      and_intros
      refine w_int2 (by decide) ?_
      and_intros
      refine w_int2 (decide_eq_true (.inl ?_)) ?_
      · have h1 := Int.emod_nonneg (c % 1000000403 + 70001 * (m + 1) + 97) (b := 2147483587) (by decide)
        have h2 := Int.emod_lt_of_pos (c % 1000000403 + 70001 * (m + 1) + 97) (b := 2147483587) (by decide)
        omega
      and_intros
      refine w_int2 (decide_eq_true (.inl (by decide))) ?_
      and_intros
      refine w_int2 (by decide) ?_
      and_intros
      refine w_int2 (decide_eq_true (.inl ?_)) ?_
      · generalize c % 1000000403 + 70001 * (m + 1) + 97 = z
        have h1 := Int.emod_nonneg (z % 2147483587 * (z % 2147483587) + 3900017 * (m + 1) + 31) (b := 2147483563) (by decide)
        have h2 := Int.emod_lt_of_pos (z % 2147483587 * (z % 2147483587) + 3900017 * (m + 1) + 31) (b := 2147483563) (by decide)
        omega
      and_intros
      refine w_int2 (decide_eq_true (.inl (by decide))) ?_
      and_intros
      refine w_int2 (by decide) ?_
      and_intros
      refine w_int2 (decide_eq_true (by decide)) ?_
      and_intros
      refine w_int2 (decide_eq_true h0) ?_
      and_intros
      exact fin _ _ (Int.emod_nonneg _ (by omega)) (Int.emod_lt_of_pos _ h0) ok2 (Same.refl _ _)
    have rest : ∀ c : Int, wp (sSeq (sIf (tAn (tBl (e2 geM (eVar 5) (e2 powM (eC (.int 10)) (eC (.int 18))))) (tBl (e2 ltM (eVar 4) (e1 lenM (eVar 3))))) (sSeq (PL.sDPut (eVar 0) (eC (.str "rest")) (e2 fdivM (eVar 5) (eVar 1))) (sRet (e2 modM (e1 intM (eVar 5)) (eVar 1)))) (sNil)) (sSeq (sSet 6 (e2 modM (e1 intM (e2 addM (e2 addM (e2 modM (e1 intM (eVar 5)) (eC (.int 1000000403))) (e2 mulM (eC (.int 70001)) (e2 dgM (eVar 0) (eC (.str "made"))))) (eC (.int 97)))) (eC (.int 2147483587)))) (sSeq (sSet 6 (e2 modM (e1 intM (e2 addM (e2 addM (e2 mulM (eVar 6) (eVar 6)) (e2 mulM (eC (.int 3900017)) (e2 dgM (eVar 0) (eC (.str "made"))))) (eC (.int 31)))) (eC (.int 2147483563)))) (sSeq (sSet 6 (e2 modM (e1 intM (e2 addM (e2 mulM (eVar 6) (eVar 6)) (e2 mulM (eC (.int 307)) (eVar 6)))) (eC (.int 2147483497)))) (sRet (e2 modM (e1 intM (e2 fdivM (eVar 6) (eC (.int 32)))) (eVar 1)))))) [.val (.ref n), .val (.int many), .no, .val (.lst (cs.map D.int)), .val (.int a), .val (.int c), .no]) (RunK Q) st2 := fun c => by
      and_intros
      refine w_int2 (by decide) ?_
      and_intros
      refine k_if (fun hc => ?_) fun hc => ?_
      · and_intros
        refine k_if (fun hd => ?_) fun hd => ?_
        · and_intros
          refine w_int2 (decide_eq_true ⟨h0, h1⟩) ?_
          and_intros
          with_reducible apply set_rest
          assumption
          intro st3 hs3 sm3
          and_intros
          refine w_int2 (decide_eq_true h0) ?_
          and_intros
          have hc' : (0 : Int) ≤ c := by
            have := of_decide_eq_true hc
            have h18 : (0 : Int) ≤ 10 ^ (18 : Int).toNat := by decide
            omega
          exact fin _ _ (Int.emod_nonneg _ (by omega)) (Int.emod_lt_of_pos _ h0) ⟨cs, _, _, _, hs3, hl, by omega, Int.ediv_nonneg hc' (by omega)⟩ sm3
        · with_reducible refine w_nil ?_
          with_reducible refine k_seq ?_
          exact tail c
      · skip
        with_reducible refine k_ifF ?_
        with_reducible refine w_nil ?_
        with_reducible refine k_seq ?_
        exact tail c
    and_intros
    refine ⟨by decide, w_ne (shp_ints cs) shp_nil ?_⟩
    and_intros
    refine k_if (fun hc => ?_) fun hc => ?_
    · have hne : cs ≠ [] := fun e => by rw [e] at hc; exact absurd hc (by decide)
      have hlen : (0 : Int) < ((cs.map D.int).length : Int) := by
        rw [List.length_map]
        cases cs with
        | nil => exact absurd rfl hne
        | cons _ _ => simp
      and_intros
      refine w_int2 (decide_eq_true hlen) ?_
      and_intros
      obtain ⟨c, hc1, hc2⟩ := atI_lt (xs := cs) (Int.emod_nonneg a (by rw [List.length_map] at hlen; omega)) (Int.emod_lt_of_pos a (by rw [List.length_map] at hlen; exact hlen))
      refine w_ixL (d := .int c) (by rw [atI_map, List.length_map, hc1]; rfl) ?_
      with_reducible refine k_seq ?_
      exact rest c
    · with_reducible refine w_c ?_
      with_reducible refine k_seq ?_
      exact rest _
end PG

set_option linter.all false
set_option maxRecDepth 100000
set_option maxHeartbeats 4000000
/-! PG3: pick, names. -/
namespace PG
open PySem PySem.Spec L2 PL
theorem spec_pick {n : Nat} {st : Sto} {xs : List D} {Q : D → Sto → Prop} (h : FOk n st) (hne : xs ≠ []) (hl : xs.length < 1073741824) (q : ∀ x st', x ∈ xs → FOk n st' → Same n st st' → Q x st') : wp (m_law_pick [.ref n, .lst xs]) Q st := by
  refine w_run' [.val (.ref n), .val (.lst xs)] rfl ?_
  unfold s_law_pick
  subst_eqs
  refine ⟨rfl, spec_draw h (by cases xs with | nil => exact absurd rfl hne | cons _ _ => simp) (by omega) fun z st' z0 z1 f s => ?_⟩
  obtain ⟨x, hx, hm⟩ := atI_lt (xs := xs) z0 z1
  refine w_ixL hx ?_
  subst_eqs
  exact q x st' hm f s
theorem spec_pickT {n : Nat} {st : Sto} {xs : List D} {Q : D → Sto → Prop} (h : FOk n st) (hne : xs ≠ []) (hl : xs.length < 1073741824) (q : ∀ x st', x ∈ xs → FOk n st' → Same n st st' → Q x st') : wp (m_law_pick [.ref n, .tup xs]) Q st := by
  refine w_run' [.val (.ref n), .val (.tup xs)] rfl ?_
  unfold s_law_pick
  subst_eqs
  refine ⟨rfl, spec_draw h (by cases xs with | nil => exact absurd rfl hne | cons _ _ => simp) (by omega) fun z st' z0 z1 f s => ?_⟩
  obtain ⟨x, hx, hm⟩ := atI_lt (xs := xs) z0 z1
  refine w_ixT hx ?_
  subst_eqs
  exact q x st' hm f s
/-! ### names -/
def Sg (c : Nat) : Prop := 97 ≤ c ∧ c ≤ 122
def Lw (x : Str) : Prop := ∀ c ∈ x.cps.toList, Sg c
def Nm (x : Str) : Prop := 1 ≤ x.length ∧ x.length ≤ 8 ∧ Lw x
def NmD (d : D) : Prop := ∃ x, d = .str x ∧ Nm x
def abc : Str := "abcdefghijklmnopqrstuvwxyz"
theorem abc_len : abc.length = 26 := by decide
theorem abc_sg : ∀ c ∈ abc.cps.toList, Sg c := by
  unfold Sg; decide
theorem lw_ok {x : Str} (h : Lw x) : PyData.strOk x = true := by
  unfold PyData.strOk
  rw [Array.all_eq_true_iff_forall_mem]
  intro c hc
  have := h c (Array.mem_toList_iff.mpr hc)
  exact decide_eq_true (by have := this.2; omega)
theorem lw_app {x y : Str} (hx : Lw x) (hy : Lw y) : Lw (x ++ y) := by
  intro c hc
  have e : (x ++ y).cps.toList = x.cps.toList ++ y.cps.toList := by
    show (x.cps ++ y.cps).toList = _
    rw [Array.toList_append]
  rw [e] at hc
  rcases List.mem_append.mp hc with h | h
  · exact hx c h
  · exact hy c h
theorem len_app (x y : Str) : (x ++ y).length = x.length + y.length := by
  show (x.cps ++ y.cps).size = _
  rw [Array.size_append]; rfl
theorem one_len (c : Nat) : (⟨#[c]⟩ : Str).length = 1 := rfl
theorem lw_one {c : Nat} (h : Sg c) : Lw ⟨#[c]⟩ := by
  intro d hd
  have : d = c := by simpa using hd
  rw [this]; exact h
theorem nm_shp {x : Str} (h : Nm x) : Shp 0 (.str x) := shp_str (lw_ok h.2.2)
theorem nmd_shp {d : D} (h : NmD d) : Shp 0 d := by obtain ⟨x, rfl, hx⟩ := h; exact nm_shp hx
theorem small {n : Nat} (h : n ≤ 1000000) : n ≤ sizeLine := Nat.le_trans h (by decide)
theorem app_cps (x y : Str) : (x ++ y).cps.toList = x.cps.toList ++ y.cps.toList := by
  show (x.cps ++ y.cps).toList = _
  rw [Array.toList_append]
theorem lw_nil : Lw "" := by
  intro c hc
  have e : ("" : Str).cps.toList = [] := by decide
  rw [e] at hc
  exact absurd hc List.not_mem_nil
theorem lw_join {y : Str} (hy : Lw y) : ∀ {xs : List Str}, (∀ x ∈ xs, Lw x) → Lw (Str.join y xs)
  | [], _ => fun c hc => absurd hc (by simp [Str.join, Str.empty])
  | [x], h => h x List.mem_cons_self
  | x :: z :: r, h => lw_app (lw_app (h x List.mem_cons_self) hy) (lw_join hy fun w hw => h w (List.mem_cons_of_mem _ hw))
theorem len_join1 : ∀ {xs : List Str}, (∀ x ∈ xs, x.length = 1) → (Str.join "" xs).length = xs.length
  | [], _ => rfl
  | [x], h => h x List.mem_cons_self
  | x :: z :: r, h => by
    show (x ++ "" ++ Str.join "" (z :: r)).length = _
    rw [len_app, len_app, h x List.mem_cons_self, len_join1 fun w hw => h w (List.mem_cons_of_mem _ hw)]
    show 1 + 0 + (r.length + 1) = r.length + 1 + 1
    omega
def OneD (d : D) : Prop := ∃ c, d = .str ⟨#[c]⟩ ∧ Sg c
theorem ones : ∀ {ds : List D}, (∀ d ∈ ds, OneD d) → ∃ xs : List Str, strsD ds = some xs ∧ xs.length = ds.length ∧ ∀ x ∈ xs, x.length = 1 ∧ Lw x
  | [], _ => ⟨[], rfl, rfl, fun _ h => absurd h List.not_mem_nil⟩
  | d :: ds, h => by
    obtain ⟨c, rfl, hc⟩ := h d List.mem_cons_self
    obtain ⟨xs, e, hl, hx⟩ := ones fun z hz => h z (List.mem_cons_of_mem _ hz)
    refine ⟨_ :: xs, by unfold strsD; rw [e]; rfl, by simp [hl], fun x hx' => ?_⟩
    rcases List.mem_cons.mp hx' with e | e
    · rw [e]; exact ⟨rfl, lw_one hc⟩
    · exact hx x e
theorem ones_sum : ∀ {xs : List Str}, (∀ x ∈ xs, x.length = 1 ∧ Lw x) → (xs.map (·.length)).sum = xs.length
  | [], _ => rfl
  | x :: xs, h => by
    rw [List.map_cons, List.sum_cons, (h x List.mem_cons_self).1, ones_sum fun z hz => h z (List.mem_cons_of_mem _ hz), List.length_cons]
    omega
/-- a word of drawn signs -/
theorem spec_signs {i n : Nat} {ρ : En} {it : En → M (List D)} {st : Sto} {Q : D → Sto → Prop} (h0 : ρ[0]? = some (.val (.ref n))) (h2 : ρ[2]? = some (.val (.str abc))) (hi : i < ρ.length) (hi0 : i ≠ 0) (hi2 : i ≠ 2)
    (k : wp (it ρ) (fun ds s => ds.length ≤ 8 ∧ FOk n s ∧ ∀ x s', x.length = ds.length → Lw x → FOk n s' → Same n s s' → Q (.str x) s') st) :
    wp (eM1 joinM (eC (.str "")) (eL (eLc it (.nm i) [i] tTrue (e2 ixM (eVar 2) (eCall 2 m_law_draw (aCons (eVar 0) (aCons (eC (.int 26)) aNil)))))) ρ) Q st := by
  refine w_m1 (w_c (k_str ?_))
  refine w_eL (w_lc (wp_mono k fun ds s ⟨hl, hF, q⟩ => ?_))
  have hi' : i < (wipeE ρ [i]).length := by show i < (ρ.set i .no).length; rw [List.length_set]; exact hi
  refine lc_each hi' OneD (fun s' => FOk n s' ∧ Same n s s') ds s (fun d _ s1 ⟨f1, sm1⟩ => ?_) ⟨hF, Same.refl _ _⟩ fun out s' hlen hP ⟨f2, sm2⟩ => ?_
  · refine w_e2 ?_
    have g2 : ((wipeE ρ [i]).set i (Slot.val d))[2]? = some (.val (.str abc)) := by
      show ((ρ.set i .no).set i (.val d))[2]? = _
      rw [List.getElem?_set_ne hi2, List.getElem?_set_ne hi2]; exact h2
    have g0 : ((wipeE ρ [i]).set i (Slot.val d))[0]? = some (.val (.ref n)) := by
      show ((ρ.set i .no).set i (.val d))[0]? = _
      rw [List.getElem?_set_ne hi0, List.getElem?_set_ne hi0]; exact h0
    refine w_var g2 (w_call (w_aC (w_var g0 (w_aC (w_c (w_aN ⟨rfl, ?_⟩))))))
    refine spec_draw f1 (by decide) (by decide) fun z st' z0 z1 f s => ?_
    obtain ⟨c, hc, hm⟩ := atI_lt (xs := abc.cps.toList) z0 (by exact z1)
    exact w_ixS (by decide) hc ⟨⟨c, rfl, abc_sg c hm⟩, f, sm1.trans s⟩
  · obtain ⟨xs, e, hl2, hx⟩ := ones hP
    show wp ((opt (seqD (.lst out))).bind _) Q s'
    rw [wp_bind]
    show wp (opt (some out)) _ s'
    rw [wp_some, wp_bind, e, wp_some]
    rw [wp_guard]
    refine ⟨decide_eq_true ?_, ?_⟩
    · rw [ones_sum hx]
      show xs.length + xs.length * 0 ≤ 16777216
      omega
    · rw [wp_pure, TL.join_eq]
      exact q _ s' (by rw [len_join1 fun x h => (hx x h).1]; omega) (lw_join lw_nil fun x h => (hx x h).2) f2 sm2
end PG

set_option linter.all false
set_option maxRecDepth 100000
set_option maxHeartbeats 4000000
/-! PG4: the drawn names. -/
namespace PG
open PySem PySem.Spec L2 PL
theorem len_cps (x : Str) : x.length = x.cps.toList.length := by rw [Array.length_toList]; rfl
theorem cut_two (x : Str) {k : Int} (h0 : 0 ≤ k) (h1 : k ≤ x.length) : (cutS x none (some k)).length + (cutS x (some k) none).length = x.length ∧ (Lw x → Lw (cutS x none (some k)) ∧ Lw (cutS x (some k) none)) := by
  obtain ⟨j, rfl⟩ := Int.eq_ofNat_of_zero_le h0
  have hj : j ≤ x.cps.toList.length := by rw [← len_cps]; omega
  have e1 : (cutS x none (some (j : Int))).cps.toList = x.cps.toList.take j := by
    unfold cutS
    rw [HT.sIx_none, HT.sIx_nat, List.drop_zero, Nat.sub_zero, len_cps]
    show List.take (min j x.cps.toList.length) x.cps.toList = _
    rw [Nat.min_eq_left hj]
  have e2 : (cutS x (some (j : Int)) none).cps.toList = x.cps.toList.drop j := by
    unfold cutS
    rw [HT.sIx_none, HT.sIx_nat, len_cps]
    show List.take (x.cps.toList.length - min j x.cps.toList.length) (List.drop (min j x.cps.toList.length) x.cps.toList) = _
    rw [Nat.min_eq_left hj, List.take_of_length_le (by rw [List.length_drop]; exact Nat.le_refl _)]
  refine ⟨by rw [len_cps, len_cps, len_cps x, e1, e2, List.length_take, List.length_drop]; omega, fun hx => ⟨fun c hc => hx c ?_, fun c hc => hx c ?_⟩⟩
  · rw [e1] at hc; exact List.mem_of_mem_take hc
  · rw [e2] at hc; exact List.mem_of_mem_drop hc
def wordsL : List D := [.str "put", .str "take", .str "do", .str "party", .str "channel", .str "arrow", .str "queue", .str "bag", .str "call", .str "a", .str "ab", .str "abc", .str "z"]
theorem nm_dec {x : Str} (h : (decide (1 ≤ x.length) && decide (x.length ≤ 8) && x.cps.toList.all fun c => decide (97 ≤ c) && decide (c ≤ 122)) = true) : Nm x := by
  simp only [Bool.and_eq_true, decide_eq_true_eq, List.all_eq_true] at h
  exact ⟨h.1.1, h.1.2, fun c hc => h.2 c hc⟩
theorem words_nm : ∀ d ∈ wordsL, NmD d := by
  intro d hd
  unfold wordsL at hd
  simp only [List.mem_cons, List.not_mem_nil, or_false] at hd
  rcases hd with rfl | rfl | rfl | rfl | rfl | rfl | rfl | rfl | rfl | rfl | rfl | rfl | rfl <;> exact ⟨_, rfl, nm_dec (by decide)⟩
/-- a sign that no name in so short a row is -/
theorem some_sign {ds : List D} (h : ds.length < 26) : ∃ c rest, (abc.cps.toList.map charD).filter (fun d => !ds.any fun z => z.eqv d) = c :: rest ∧ NmD c := by
  cases e : (abc.cps.toList.map charD).filter (fun d => !ds.any fun z => z.eqv d) with
  | cons c rest =>
    refine ⟨c, rest, rfl, ?_⟩
    have hm : c ∈ (abc.cps.toList.map charD).filter (fun d => !ds.any fun z => z.eqv d) := by rw [e]; exact List.mem_cons_self
    obtain ⟨k, hk, rfl⟩ := List.mem_map.mp (List.mem_filter.mp hm).1
    exact ⟨⟨#[k]⟩, rfl, by show 1 ≤ 1; decide, by show 1 ≤ 8; decide, lw_one (abc_sg k hk)⟩
  | nil =>
    exfalso
    have all : ∀ k ∈ abc.cps.toList, ∃ z ∈ ds, z = .str ⟨#[k]⟩ := fun k hk => by
      have h1 := List.filter_eq_nil_iff.mp e (charD k) (List.mem_map_of_mem hk)
      have h2 : (ds.any fun z => z.eqv (charD k)) = true := by
        cases q : (ds.any fun z => z.eqv (charD k)) with
        | true => rfl
        | false => rw [q] at h1; exact absurd rfl h1
      obtain ⟨z, hz, hv⟩ := List.any_eq_true.mp h2
      refine ⟨z, hz, ?_⟩
      cases z with
      | str y =>
        have : (D.str y).eqv (.str ⟨#[k]⟩) = true := hv
        rw [eqv_ss] at this
        rw [eq_of_beq this]
      | _ => simp [D.eqv, D.py, PyData.eqv, charD] at hv
    let g : D → Nat := fun d => match d with
      | .str y => y.cps.toList.headD 0
      | _ => 0
    have hsub : abc.cps.toList ⊆ ds.map g := fun k hk => by
      obtain ⟨z, hz, rfl⟩ := all k hk
      exact List.mem_map.mpr ⟨_, hz, rfl⟩
    have := List.Nodup.length_le_of_subset (by decide : abc.cps.toList.Nodup) hsub
    rw [List.length_map] at this
    have h26 : abc.cps.toList.length = 26 := by decide
    omega
end PG

set_option linter.all false
set_option maxRecDepth 100000
set_option maxHeartbeats 4000000
/-! PG5: the drawn names. -/
namespace PG
open PySem PySem.Spec L2 PL
theorem list_shp {k : Nat} {ds : List D} (h : ∀ d ∈ ds, Shp k d) (hk : k + 1 ≤ 64 := by decide) : (D.lst ds).shp = true := (shp_lst h).shp hk
theorem it_abc : itD (.str abc) = some (abc.cps.toList.map charD) := by
  show (if abc.length ≤ sizeLine then some (abc.cps.toList.map charD) else none) = _
  rw [if_pos (by decide)]
theorem cat_nm {a b : Str} {c : Nat} (h : a.length + b.length ≤ 7) (ha : Lw a) (hb : Lw b) (hc : Sg c) : Nm (a ++ ⟨#[c]⟩ ++ b) := by
  refine ⟨?_, ?_, lw_app (lw_app ha (lw_one hc)) hb⟩
  · rw [len_app, len_app]; show 1 ≤ a.length + 1 + b.length; omega
  · rw [len_app, len_app]; show a.length + 1 + b.length ≤ 8; omega
theorem spec_names {n : Nat} {st : Sto} {many : Int} {Q : D → Sto → Prop} (h : FOk n st) (h0 : 0 ≤ many) (h1 : many ≤ 20) (q : ∀ xs st', (∀ x ∈ xs, NmD x) → xs.length = many.toNat → FOk n st' → Same n st st' → Q (.lst xs) st') : wp (m_law_names [.ref n, .int many]) Q st := by
  refine w_run' [.val (.ref n), .val (.int many), .no, .no, .no, .no, .no, .no, .no, .no, .no, .no, .no] rfl ?_
  unfold s_law_names
  subst_eqs
  refine ⟨by decide, ?_⟩
  subst_eqs
  refine ⟨rfl, spec_draw h (by decide) (by decide) fun way s1 _ _ f1 sm1 => ?_⟩
  subst_eqs
  refine ⟨rfl, spec_draw f1 (by decide) (by decide) fun size s2 sz0 sz1 f2 sm2 => ?_⟩
  refine k_seq (w_seq (w_set (by simp) (spec_signs rfl rfl (by simp) (by decide) (by decide) ?_)))
  subst_eqs
  refine ⟨_, rfl, w_range (by omega) (by omega) (small (by omega)) ⟨by simp; omega, f2, fun stem s3 hlen hlw f3 sm3 => ?_⟩⟩
  rw [List.length_map, List.length_range] at hlen
  subst_eqs
  refine ⟨rfl, spec_draw f3 (by omega) (by omega) fun cut s4 c0 c1 f4 sm4 => ?_⟩
  subst_eqs
  refine ⟨by decide, ?_⟩
  refine k_seq (w_seq (w_for ?_))
  subst_eqs
  refine ⟨_, rfl, w_range (by omega) (by omega) (small (by omega)) ?_⟩
  have sm04 := ((sm1.trans sm2).trans sm3).trans sm4
  refine for_each (fun j ρ s => ∃ x7 x10 x11 x12 found, ρ = [.val (.ref n), .val (.int many), .val (.str abc), .val (.lst wordsL), .val (.int way), .val (.int size), .val (.str stem), x7, .val (.int cut), .own found, x10, x11, x12] ∧ (∀ x ∈ found, NmD x) ∧ found.length = j ∧ FOk n s ∧ Same n st s) _ 0 _ _ ?_ ?_ ?_
  · rintro m d ρ s hd ⟨x7, x10, x11, x12, found, rfl, hfound, hlenf, fs, sms⟩
    have hm : m < 20 := by
      have := (List.getElem?_eq_some_iff.mp hd).1
      rw [List.length_map, List.length_range] at this
      omega
    rw [Nat.zero_add] at hlenf
    refine ⟨_, set_nm (by simp), ?_⟩
    -- behind the three ways: a name stands in slot 10
    have mid : ∀ (x : Str) (s' : Sto) (y7 y11 y12 : Slot), Nm x → FOk n s' → Same n st s' → wp (sSeq (sIf (tBl (e2 inM (eVar 10) (eLook 9))) (sSet 10 (e2 ixM (eL (eLc (iSeq (eVar 2)) (.nm 12) [12] (tBl (e2 notInM (eVar 12) (eLook 9))) (eVar 12))) (eC (.int 0)))) sNil) (sApp 9 (eVar 10)) [.val (.ref n), .val (.int many), .val (.str abc), .val (.lst wordsL), .val (.int way), .val (.int size), .val (.str stem), y7, .val (.int cut), .own found, .val (.str x), y11, y12])
        (fun r s' => r.1 = .nx ∧ ∃ x7 x10 x11 x12 found, r.2 = [.val (.ref n), .val (.int many), .val (.str abc), .val (.lst wordsL), .val (.int way), .val (.int size), .val (.str stem), x7, .val (.int cut), .own found, x10, x11, x12] ∧ (∀ x ∈ found, NmD x) ∧ found.length = 0 + m + 1 ∧ FOk n s' ∧ Same n st s') s' := by
      intro x s' y7 y11 y12 hx fs' sms'
      have shf : (D.lst found).shp = true := list_shp fun d hd => nmd_shp (hfound d hd)
      have fin : ∀ (d : D), NmD d → d ∈ [d] → ∀ y ∈ found ++ [d], NmD y := fun d hd _ y hy => by
        rcases List.mem_append.mp hy with h | h
        · exact hfound y h
        · rw [List.mem_singleton.mp h]; exact hd
      subst_eqs
      refine w_in rfl (nm_shp hx).shp shf ?_
      subst_eqs
      refine k_if (fun _ => ?_) fun _ => ?_
      · refine w_set (by simp) (w_e2 (w_eL (w_lc ?_)))
        subst_eqs
        refine ⟨_, it_abc, ?_⟩
        refine lc_filter (by simp [wipeE]) (fun d => !found.any fun z => z.eqv d) _ _ (fun d hd T k => ?_) ?_
        · obtain ⟨k', hk', rfl⟩ := List.mem_map.mp hd
          refine w_tBl (w_e2 (w_var rfl (w_look rfl (w_notIn rfl ((nm_shp (x := ⟨#[k']⟩) ⟨by show 1 ≤ 1; decide, by show 1 ≤ 8; decide, lw_one (abc_sg k' hk')⟩).shp) shf (k_bl k)))))
        · obtain ⟨c, rest, e, hc⟩ := some_sign (ds := found) (by omega)
          rw [e]
          subst_eqs
          refine w_ixL (d := c) (atI_nat (j := 0) rfl) ?_
          subst_eqs
          refine ⟨small (by omega), rfl, _, _, _, _, _, rfl, fin c hc (List.mem_singleton.mpr rfl), by simp [hlenf], fs', sms'⟩
      · subst_eqs
        refine ⟨small (by omega), rfl, _, _, _, _, _, rfl, fin _ ⟨x, rfl, hx⟩ (List.mem_singleton.mpr rfl), by simp [hlenf], fs', sms'⟩
    have two : ∀ (x : Str) (s' : Sto) (y7 y11 y12 : Slot), Nm x → FOk n s' → Same n st s' → wp ((sSeq (sIf (tBl (e2 eqM (eVar 4) (eC (.int 2)))) (sSet 10 (eM1 joinM (eC (.str "")) (eL (eLc (iRange1 (aCons (e2 addM (eC (.int 1)) (eCall 2 m_law_draw (aCons (eVar 0) (aCons (eC (.int 8)) (aNil))))) (aNil))) (.nm 11) [11] (tTrue) (e2 ixM (eVar 2) (eCall 2 m_law_draw (aCons (eVar 0) (aCons (eC (.int 26)) (aNil))))))))) (sNil)) (sSeq (sIf (tBl (e2 inM (eVar 10) (eLook 9))) (sSet 10 (e2 ixM (eL (eLc (iSeq (eVar 2)) (.nm 12) [12] (tBl (e2 notInM (eVar 12) (eLook 9))) (eVar 12))) (eC (.int 0)))) sNil) (sApp 9 (eVar 10)))) [.val (.ref n), .val (.int many), .val (.str abc), .val (.lst wordsL), .val (.int way), .val (.int size), .val (.str stem), y7, .val (.int cut), .own found, .val (.str x), y11, y12]) (fun r s' => r.1 = .nx ∧ ∃ x7 x10 x11 x12 found, r.2 = [.val (.ref n), .val (.int many), .val (.str abc), .val (.lst wordsL), .val (.int way), .val (.int size), .val (.str stem), x7, .val (.int cut), .own found, x10, x11, x12] ∧ (∀ x ∈ found, NmD x) ∧ found.length = 0 + m + 1 ∧ FOk n s' ∧ Same n st s') s' := by
      intro x s' y7 y11 y12 hx fs' sms'
      subst_eqs
      refine w_eq shp_int.shp shp_int.shp ?_
      subst_eqs
      refine k_if (fun _ => ?_) fun _ => ?_
      · refine w_set (by simp) (spec_signs rfl rfl (by simp) (by decide) (by decide) ?_)
        subst_eqs
        refine ⟨rfl, spec_draw fs' (by decide) (by decide) fun z t z0 z1 ft smt => ?_⟩
        subst_eqs
        refine ⟨_, rfl, w_range (by omega) (by omega) (small (by omega)) ⟨by simp; omega, ft, fun y t2 hl hw ft2 smt2 => ?_⟩⟩
        rw [List.length_map, List.length_range] at hl
        exact mid y t2 _ _ _ ⟨by omega, by omega, hw⟩ ft2 ((sms'.trans smt).trans smt2)
      · refine w_nil ?_
        exact mid x s' _ _ _ hx fs' sms'
    refine w_seq (w_set (by simp) ?_)
    subst_eqs
    refine w_slS (small (by omega)) ?_
    subst_eqs
    refine ⟨rfl, spec_draw fs (by decide) (by decide) fun z t z0 z1 ft smt => ?_⟩
    obtain ⟨c, hc, hcm⟩ := atI_lt (xs := abc.cps.toList) z0 (by exact z1)
    refine w_ixS (by decide) hc ?_
    obtain ⟨k1, k2⟩ := cut_two stem c0 (by omega)
    obtain ⟨k3, k4⟩ := k2 hlw
    refine w_addS (small (by rw [one_len]; omega)) ?_
    subst_eqs
    refine w_slS (small (by omega)) ?_
    refine w_addS (small (by rw [len_app, one_len]; omega)) ?_
    have hnm : Nm (cutS stem none (some cut) ++ ⟨#[c]⟩ ++ cutS stem (some cut) none) := cat_nm (by omega) k3 k4 (abc_sg c hcm)
    have smt' := sms.trans smt
    refine k_seq (w_seq (w_if ?_))
    subst_eqs
    refine w_eq shp_int.shp shp_int.shp ?_
    refine k_bl (k_if (fun _ => ?_) fun _ => ?_)
    · refine w_set (by simp) (w_call (w_aC (w_var rfl (w_aC (w_var rfl (w_aN ⟨rfl, spec_pick ft (by decide) (by decide) fun x t2 hx ft2 smt2 => ?_⟩))))))
      obtain ⟨y, rfl, hy⟩ := words_nm x hx
      exact two y t2 _ _ _ hy ft2 (smt'.trans smt2)
    · refine w_nil ?_
      exact two _ t _ _ _ hnm ft smt'
  · exact ⟨_, _, _, _, [], rfl, fun _ h => absurd h List.not_mem_nil, rfl, f4, sm04⟩
  · rintro ρ s ⟨x7, x10, x11, x12, found, rfl, hfound, hlenf, fs, sms⟩
    subst_eqs
    rw [List.length_map, List.length_range, Nat.zero_add] at hlenf
    exact q found s hfound hlenf fs sms
end PG

set_option linter.all false
set_option maxRecDepth 100000
set_option maxHeartbeats 4000000
/-! PG6: the feed, the spots. -/
namespace PG
open PySem PySem.Spec L2 PL
section
variable {R : D → Sto → Prop} {A : List D → Sto → Prop} {st : Sto} {ρ : En} {f : En → M D} {fs : List (En → M D)} {ks : List Str}
theorem w_dict (k : wp (aL fs ρ) (fun ds s => R (.ref s.length) (s ++ [.dict (putAll [] ((ks.map Sum.inr).zip ds))])) st) : wp (eDict ks fs ρ) R st := by
  unfold eDict; rw [wp_bind]; simp only [wp_newOb]; exact k
theorem w_aLn (k : A [] st) : wp (aL [] ρ) A st := ⟨k⟩
theorem w_aLc (k : wp (f ρ) (fun x s => wp (aL fs ρ) (fun xs s => A (x :: xs) s) s) st) : wp (aL (f :: fs) ρ) A st := by
  unfold aL; rw [wp_bind]
  refine wp_mono k fun x s k => ?_
  rw [wp_bind]; simp only [wp_pure]; exact k
end
theorem cut_mem {xs : List D} {l u : Option Int} {d : D} (h : d ∈ cutD xs l u) : d ∈ xs := List.mem_of_mem_drop (List.mem_of_mem_take h)
theorem cut_len (xs : List D) (l u : Option Int) : (cutD xs l u).length ≤ xs.length := by
  unfold cutD
  rw [List.length_take, List.length_drop]
  omega
theorem cut_ne {xs : List D} {a b : Int} (h0 : 0 ≤ a) (h1 : a < b) (h2 : a < xs.length) : cutD xs (some a) (some b) ≠ [] := by
  obtain ⟨i, rfl⟩ := Int.eq_ofNat_of_zero_le h0
  obtain ⟨j, rfl⟩ := Int.eq_ofNat_of_zero_le (a := b) (by omega)
  intro e
  have := congrArg List.length e
  unfold cutD at this
  rw [HT.sIx_nat, HT.sIx_nat, List.length_take, List.length_drop] at this
  simp only [List.length_nil] at this
  omega
theorem spec_feedS {ns : List Int} {st : Sto} {Q : D → Sto → Prop} (h : ns.length ≤ 63) (q : ∀ o, FOk st.length (st ++ [o]) → Q (.ref st.length) (st ++ [o])) : wp (m_law_feed [.frz (ns.map D.int)]) Q st := by
  refine w_run' [.val (.frz (ns.map D.int)), .no] rfl ?_
  unfold s_law_feed
  refine w_ret (w_dict (w_aLc (w_eL (w_lc ?_))))
  subst_eqs
  refine ⟨_, rfl, ?_⟩
  refine lc_map (by simp [wipeE]) (fun d => d) _ _ (fun d hd Q k => ?_) ?_
  · obtain ⟨i, _, rfl⟩ := List.mem_map.mp (cut_mem hd)
    refine w_e1 (w_var rfl ?_)
    exact w_intI k
  · refine w_aLc (w_c (w_aLc (w_c (w_aLc (w_c (w_aLn ?_))))))
    refine k_run ?_
    have e : (cutD (ns.map D.int) none (some 63)).map (fun d => d) = ((ns.take 63).map D.int) := by
      rw [List.map_id']
      unfold cutD
      rw [HT.sIx_none, List.drop_zero, Nat.sub_zero]
      show List.take (HT.sIx (ns.map D.int).length _ (some ((63 : Nat) : Int))) _ = _
      rw [HT.sIx_nat, List.length_map, Nat.min_eq_right h, List.map_take, List.take_of_length_le (by rw [List.length_map]; exact Nat.le_refl _), List.take_of_length_le (by rw [List.length_map]; exact h)]
    rw [e]
    exact q _ ⟨ns.take 63, 0, 0, 0, by rw [List.getElem?_concat_length]; rfl, by rw [List.length_take]; omega, by decide, by decide⟩
theorem spec_feed {ns : List Int} {st : Sto} {Q : D → Sto → Prop} (h : ns.length ≤ 63) (q : ∀ st', FOk st.length st' → st'.length = st.length + 1 → Q (.ref st.length) st') : wp (m_law_feed [.frz (ns.map D.int)]) Q st := spec_feedS h fun o f => q _ f (by simp)
/-! ### spots -/
def Nu (i : Int) : Prop := 0 ≤ i ∧ i < 1000000000000000000000000000000000000000000000000000000000000
def NuD (d : D) : Prop := ∃ i, d = .int i ∧ Nu i
theorem nu_of {i : Int} (h0 : 0 ≤ i) (h1 : i ≤ 1000000) : NuD (.int i) := ⟨i, rfl, h0, by omega⟩
theorem spec_spots {n : Nat} {st : Sto} {Q : D → Sto → Prop} (h : FOk n st) (q : ∀ xs st', (∀ x ∈ xs, NuD x) → xs ≠ [] → xs.length ≤ 16 → FOk n st' → Same n st st' → Q (.lst xs) st') : wp (m_law_spots [.ref n]) Q st := by
  refine w_run' [.val (.ref n), .no, .no, .no] rfl ?_
  unfold s_law_spots
  subst_eqs
  refine ⟨rfl, spec_draw h (by decide) (by decide) fun z1 s1 a1 b1 f1 sm1 => ?_⟩
  subst_eqs
  refine w_int2 (decide_eq_true ⟨by decide, by decide, by decide⟩) ?_
  refine w_int2 (decide_eq_true (.inl (by omega))) ?_
  subst_eqs
  refine ⟨rfl, spec_draw f1 (by decide) (by decide) fun z2 s2 a2 b2 f2 sm2 => ?_⟩
  subst_eqs
  refine ⟨rfl, spec_draw f2 (by decide) (by decide) fun z3 s3 a3 b3 f3 sm3 => ?_⟩
  subst_eqs
  refine ⟨rfl, spec_draw f3 (by decide) (by decide) fun z4 s4 a4 b4 f4 sm4 => ?_⟩
  subst_eqs
  refine ⟨rfl, spec_draw f4 (by decide) (by decide) fun z5 s5 a5 b5 f5 sm5 => ?_⟩
  subst_eqs
  refine ⟨by show 8 ≤ sizeLine; decide, ?_⟩
  subst_eqs
  refine ⟨rfl, spec_draw f5 (by decide) (by decide) fun z6 s6 a6 b6 f6 sm6 => ?_⟩
  subst_eqs
  refine w_addL (by show 16 ≤ sizeLine; decide) ?_
  subst_eqs
  refine ⟨rfl, spec_draw f6 (by decide) (by decide) fun z7 s7 a7 b7 f7 sm7 => ?_⟩
  subst_eqs
  have big : NuD (.int (z1 * 10 ^ Int.toNat 54 + z2)) := by
    have e : (10 : Int) ^ Int.toNat 54 = 1000000000000000000000000000000000000000000000000000000 := by decide
    rw [e]
    exact ⟨_, rfl, by omega, by omega⟩
  refine q _ s7 (fun x hx => ?_) (cut_ne a6 (by omega) (by show z6 < 16; omega)) (Nat.le_trans (cut_len _ _ _) (by show 16 ≤ 16; decide)) f7 ((((((sm1.trans sm2).trans sm3).trans sm4).trans sm5).trans sm6).trans sm7)
  have hx := cut_mem hx
  have h8 : ∀ y ∈ [D.int 0, .int 1, .int 2, .int (9 + z3), .int 3, .int (z1 * 10 ^ Int.toNat 54 + z2), .int z4, .int (98 + z5)], NuD y := by
    intro y hy
    simp only [List.mem_cons, List.not_mem_nil, or_false] at hy
    rcases hy with rfl | rfl | rfl | rfl | rfl | rfl | rfl | rfl
    · exact nu_of (by decide) (by decide)
    · exact nu_of (by decide) (by decide)
    · exact nu_of (by decide) (by decide)
    · exact nu_of (by omega) (by omega)
    · exact nu_of (by decide) (by decide)
    · exact big
    · exact nu_of a4 (by omega)
    · exact nu_of (by omega) (by omega)
  rcases List.mem_append.mp hx with h | h <;> exact h8 x h
end PG

set_option linter.all false
set_option maxRecDepth 100000
set_option maxHeartbeats 4000000
/-! PG7: doings, a party. -/
namespace PG
open PySem PySem.Spec L2 PL
def Do (d : D) : Prop := (∃ a, NmD a ∧ d = .tup [.str "do", a]) ∨ ∃ w a b, (w = ("put" : Str) ∨ w = ("take" : Str)) ∧ NmD a ∧ NmD b ∧ d = .tup [.str w, a, b]
def Ch (d : D) : Prop := ∃ a b c f, NmD a ∧ NmD b ∧ NmD c ∧ (f = ("queue" : Str) ∨ f = ("bag" : Str) ∨ f = ("call" : Str)) ∧ d = .tup [a, b, c, .str f]
def Ar (d : D) : Prop := ∃ p g l, NuD p ∧ Do g ∧ NuD l ∧ d = .tup [p, g, l]
theorem nu_shp {d : D} (h : NuD d) : Shp 0 d := by obtain ⟨i, rfl, _⟩ := h; exact shp_int
theorem do_shp {d : D} (h : Do d) : Shp 1 d := by
  rcases h with ⟨a, ha, rfl⟩ | ⟨w, a, b, hw, ha, hb, rfl⟩
  · refine shp_tup fun x hx => ?_
    simp only [List.mem_cons, List.not_mem_nil, or_false] at hx
    rcases hx with rfl | rfl
    · exact shp_str (by decide +kernel)
    · exact nmd_shp ha
  · refine shp_tup fun x hx => ?_
    simp only [List.mem_cons, List.not_mem_nil, or_false] at hx
    rcases hx with rfl | rfl | rfl
    · rcases hw with rfl | rfl <;> exact shp_str (by decide +kernel)
    · exact nmd_shp ha
    · exact nmd_shp hb
theorem ar_shp {d : D} (h : Ar d) : Shp 2 d := by
  obtain ⟨p, g, l, hp, hg, hl, rfl⟩ := h
  refine shp_tup fun x hx => ?_
  simp only [List.mem_cons, List.not_mem_nil, or_false] at hx
  rcases hx with rfl | rfl | rfl
  · exact (nu_shp hp).mono
  · exact do_shp hg
  · exact (nu_shp hl).mono
theorem two_shp {a b : D} (ha : NmD a) (hb : NmD b) : (D.tup [a, b]).shp = true := (shp_tup (k := 0) fun x hx => by
  simp only [List.mem_cons, List.not_mem_nil, or_false] at hx
  rcases hx with rfl | rfl
  · exact nmd_shp ha
  · exact nmd_shp hb).shp
theorem spec_doings {st : Sto} {name : D} {cs ls : List D} {Q : D → Sto → Prop} (hn : NmD name) (hc : ∀ c ∈ cs, Ch c) (hcl : cs.length ≤ 20) (hl : ∀ c ∈ ls, NmD c) (h2 : 2 ≤ ls.length) (h8 : ls.length ≤ 20)
    (q : ∀ xs, (∀ x ∈ xs, Do x) → xs ≠ [] → xs.length ≤ 402 → Q (.lst xs) st) : wp (m_law_doings [name, .lst cs, .lst ls]) Q st := by
  refine w_run' [.val name, .val (.lst cs), .val (.lst ls), .no, .no, .no, .no, .no, .no] rfl ?_
  unfold s_law_doings
  obtain ⟨a, ha, hma⟩ := atI_lt (xs := ls) (i := 0) (by decide) (by omega)
  obtain ⟨b, hb, hmb⟩ := atI_lt (xs := ls) (i := 1) (by decide) (by omega)
  subst_eqs
  refine w_ixL ha ?_
  subst_eqs
  refine ⟨by show 2 ≤ sizeLine; decide, ?_⟩
  subst_eqs
  refine w_ixL hb ?_
  subst_eqs
  refine ⟨by show 2 ≤ sizeLine; decide, ?_⟩
  subst_eqs
  refine ⟨by show 2 ≤ sizeLine; decide, ?_⟩
  subst_eqs
  refine ⟨_, rfl, ?_⟩
  refine for_each (fun j ρ s => ∃ x4 x5 x6 x7 x8 out, ρ = [.val name, .val (.lst cs), .val (.lst ls), .own out, x4, x5, x6, x7, x8] ∧ (∀ x ∈ out, Do x) ∧ out ≠ [] ∧ out.length ≤ 2 + 20 * j ∧ s = st) _ 0 _ _ ?_ ?_ ?_
  · rintro m d ρ s hd ⟨x4, x5, x6, x7, x8, out, rfl, hout, hne, hlen, rfl⟩
    have hm := (List.getElem?_eq_some_iff.mp hd).1
    obtain ⟨c1, c2, c3, fo, n1, n2, n3, hfo, rfl⟩ := hc d (List.mem_of_getElem? hd)
    refine ⟨[.val name, .val (.lst cs), .val (.lst ls), .own out, .val c1, .val c2, .val c3, .val (.str fo), x8], by simp [Pt.set, setAll], ?_⟩
    subst_eqs
    refine ⟨by show 2 ≤ sizeLine; decide, ?_⟩
    refine w_in rfl (nmd_shp hn).shp (two_shp n2 n3) ?_
    subst_eqs
    refine k_if (fun _ => ?_) fun _ => ?_
    · refine w_ext rfl (w_eL (w_lc ?_))
      subst_eqs
      refine ⟨_, rfl, ?_⟩
      refine lc_map (by simp [wipeE]) (fun d => .tup [.str (if name.eqv c2 = true then "put" else "take"), c1, d]) _ _ (fun d hd Q k => ?_) ?_
      · subst_eqs
        refine w_eq (nmd_shp hn).shp (nmd_shp n2).shp ?_
        subst_eqs
        refine k_if (fun e => ?_) fun e => ?_
        · subst_eqs
          refine ⟨by show 3 ≤ sizeLine; decide, ?_⟩
          rw [if_pos e] at k
          exact k
        · subst_eqs
          refine ⟨by show 3 ≤ sizeLine; decide, ?_⟩
          rw [if_neg (by rw [e]; exact Bool.false_ne_true)] at k
          exact k
      · refine ⟨_, rfl, small (by rw [List.length_map]; omega), rfl, _, _, _, _, _, _, rfl, fun x hx => ?_, by simp [hne], by rw [List.length_append, List.length_map]; omega, rfl⟩
        rcases List.mem_append.mp hx with h | h
        · exact hout x h
        · obtain ⟨y, hy, rfl⟩ := List.mem_map.mp h
          exact .inr ⟨_, c1, y, by split <;> simp, n1, hl y hy, rfl⟩
    · subst_eqs
      exact ⟨rfl, _, _, _, _, _, _, rfl, hout, hne, by omega, rfl⟩
  · refine ⟨_, _, _, _, _, _, rfl, fun x hx => ?_, by simp, by simp, rfl⟩
    simp only [List.mem_cons, List.not_mem_nil, or_false] at hx
    rcases hx with rfl | rfl
    · exact .inl ⟨a, hl a hma, rfl⟩
    · exact .inl ⟨b, hl b hmb, rfl⟩
  · rintro ρ s ⟨x4, x5, x6, x7, x8, out, rfl, hout, hne, hlen, rfl⟩
    subst_eqs
    exact q out hout hne (by rw [Nat.zero_add] at hlen; omega)
end PG

set_option linter.all false
set_option maxRecDepth 100000
set_option maxHeartbeats 4000000
/-! PG8: a party. -/
namespace PG
open PySem PySem.Spec L2 PL
def Pa (d : D) : Prop := ∃ a es as, NmD a ∧ List.Pairwise (· < ·) es ∧ (∀ e ∈ es, Nu e) ∧ es.length ≤ 8 ∧ (∀ x ∈ as, Ar x) ∧ as.length ≤ 8 ∧ d = .tup [a, .tup (es.map D.int), .tup as]
theorem nus : ∀ {ds : List D}, (∀ d ∈ ds, NuD d) → ∃ ns : List Int, intsD ds = some ns ∧ (∀ i ∈ ns, Nu i) ∧ ns.length = ds.length
  | [], _ => ⟨[], rfl, fun _ h => absurd h List.not_mem_nil, rfl⟩
  | d :: ds, h => by
    obtain ⟨i, rfl, hi⟩ := h d List.mem_cons_self
    obtain ⟨ns, e, hn, hl⟩ := nus fun z hz => h z (List.mem_cons_of_mem _ hz)
    refine ⟨i :: ns, by unfold intsD; rw [e]; rfl, fun x hx => ?_, by simp [hl]⟩
    rcases List.mem_cons.mp hx with e | e
    · rw [e]; exact hi
    · exact hn x e
theorem ins_len (x : Int) : ∀ l : List Int, (insU x l).length ≤ l.length + 1
  | [] => by simp [insU]
  | y :: l => by
    unfold insU
    split
    · simp
    · split
      · simp
      · have := ins_len x l
        simp only [List.length_cons]; omega
theorem uniq_len : ∀ l : List Int, (uniqI l).length ≤ l.length
  | [] => by simp [uniqI]
  | x :: l => by
    have h1 := uniq_len l
    have h2 := ins_len x (uniqI l)
    show (insU x (uniqI l)).length ≤ _
    rw [List.length_cons]; omega
theorem spec_party {n : Nat} {st : Sto} {name : D} {ds ss : List D} {Q : D → Sto → Prop} (h : FOk n st) (hn : NmD name) (hd : ∀ c ∈ ds, Do c) (hdn : ds ≠ []) (hdl : ds.length ≤ 402) (hs : ∀ c ∈ ss, NuD c) (hsn : ss ≠ []) (hsl : ss.length ≤ 16)
    (q : ∀ x st', Pa x → (∃ es as, x = .tup [name, .tup es, .tup as]) → FOk n st' → Same n st st' → Q x st') : wp (m_law_party [.ref n, name, .lst ds, .lst ss]) Q st := by
  refine w_run' [.val (.ref n), .val name, .val (.lst ds), .val (.lst ss), .no, .no, .no, .no] rfl ?_
  unfold s_law_party
  subst_eqs
  refine ⟨by decide, ?_⟩
  subst_eqs
  refine ⟨rfl, spec_draw h (by decide) (by decide) fun z s1 a1 b1 f1 sm1 => ?_⟩
  refine ⟨_, rfl, w_range (by omega) (by omega) (small (by omega)) ?_⟩
  refine for_each (fun j ρ s => ∃ x5 x6 x7 out, ρ = [.val (.ref n), .val name, .val (.lst ds), .val (.lst ss), .own out, x5, x6, x7] ∧ (∀ x ∈ out, Ar x) ∧ out.length ≤ j ∧ FOk n s ∧ Same n st s) _ 0 _ _ ?_ ?_ ?_
  · rintro m d ρ s hm ⟨x5, x6, x7, out, rfl, hout, hlen, fs, sms⟩
    have hm := (List.getElem?_eq_some_iff.mp hm).1
    rw [List.length_map, List.length_range] at hm
    refine ⟨_, set_nm (by simp), ?_⟩
    subst_eqs
    refine ⟨rfl, spec_pick fs hsn (by omega) fun p t1 hp g1 u1 => ?_⟩
    subst_eqs
    refine ⟨rfl, spec_pick g1 hdn (by omega) fun g t2 hg g2 u2 => ?_⟩
    subst_eqs
    refine ⟨rfl, spec_pick g2 hsn (by omega) fun l t3 hl g3 u3 => ?_⟩
    subst_eqs
    refine ⟨by show 3 ≤ sizeLine; decide, ?_⟩
    have har : Ar (.tup [p, g, l]) := ⟨p, g, l, hs p hp, hd g hg, hs l hl, rfl⟩
    have sm' := ((sms.trans u1).trans u2).trans u3
    subst_eqs
    refine w_notIn rfl (ar_shp har).shp (list_shp fun x hx => ar_shp (hout x hx)) ?_
    subst_eqs
    refine k_if (fun _ => ?_) fun _ => ?_
    · subst_eqs
      refine ⟨small (by omega), rfl, _, _, _, _, rfl, fun x hx => ?_, by rw [List.length_append]; simp; omega, g3, sm'⟩
      rcases List.mem_append.mp hx with h | h
      · exact hout x h
      · rw [List.mem_singleton.mp h]; exact har
    · subst_eqs
      exact ⟨rfl, _, _, _, _, rfl, hout, by omega, g3, sm'⟩
  · exact ⟨_, _, _, [], rfl, fun _ h => absurd h List.not_mem_nil, Nat.le_refl _, f1, sm1⟩
  · rintro ρ s ⟨x5, x6, x7, out, rfl, hout, hlen, fs, sms⟩
    rw [List.length_map, List.length_range] at hlen
    refine k_seq (w_seq (w_set (by simp) (w_e1 (w_eL (w_lc ?_)))))
    subst_eqs
    refine ⟨rfl, spec_draw fs (by decide) (by decide) fun z2 s2 a2 b2 f2 sm2 => ?_⟩
    refine ⟨_, rfl, w_range (by omega) (by omega) (small (by omega)) ?_⟩
    refine lc_each (by simp [wipeE]) NuD (fun s' => FOk n s' ∧ Same n s2 s') _ _ (fun d _ s3 ⟨f3, sm3⟩ => ?_) ⟨f2, Same.refl _ _⟩ fun es s4 hel hes ⟨f4, sm4⟩ => ?_
    · subst_eqs
      refine ⟨rfl, spec_pick f3 hsn (by omega) fun p t1 hp g1 u1 => ⟨hs p hp, g1, sm3.trans u1⟩⟩
    · rw [List.length_map, List.length_range] at hel
      obtain ⟨ns, en, hns, hnl⟩ := nus hes
      show wp ((opt (intsD es)).bind fun ns => guardM (decide (es.length < 64)) (M.pure (D.lst ((uniqI ns).map D.int)))) _ s4
      rw [wp_bind, en, wp_some, wp_guard]
      refine ⟨decide_eq_true (by omega), ?_⟩
      rw [wp_pure]
      subst_eqs
      refine ⟨by show 3 ≤ sizeLine; decide, ?_⟩
      subst_eqs
      exact q _ s4 ⟨name, uniqI ns, out, hn, pair_uniqI ns, fun e he => hns e ((mem_uniqI e ns).mp he), by have := uniq_len ns; omega, hout, by omega, rfl⟩ ⟨_, _, rfl⟩ f4 ((sms.trans sm2).trans sm4)
end PG

set_option linter.all false
set_option maxRecDepth 100000
set_option maxHeartbeats 4000000
/-! PG9: a drawn program. -/
namespace PG
open PySem PySem.Spec L2 PL
def Pr (d : D) : Prop := ∃ ps cs, (∀ p ∈ ps, Pa p) ∧ ps.length ≤ 4 ∧ (∀ c ∈ cs, Ch c) ∧ cs.length ≤ 20 ∧ d = .tup [.tup ps, .tup cs]
theorem nms : ∀ {ds : List D}, (∀ d ∈ ds, NmD d) → ∃ xs : List Str, strsD ds = some xs ∧ (∀ x ∈ xs, Nm x) ∧ xs.length = ds.length
  | [], _ => ⟨[], rfl, fun _ h => absurd h List.not_mem_nil, rfl⟩
  | d :: ds, h => by
    obtain ⟨i, rfl, hi⟩ := h d List.mem_cons_self
    obtain ⟨ns, e, hn, hl⟩ := nms fun z hz => h z (List.mem_cons_of_mem _ hz)
    refine ⟨i :: ns, by unfold strsD; rw [e]; rfl, fun x hx => ?_, by simp [hl]⟩
    rcases List.mem_cons.mp hx with e | e
    · rw [e]; exact hi
    · exact hn x e
theorem w_sortedN {xs : List D} {R : D → Sto → Prop} {st : Sto} (h : ∀ x ∈ xs, NmD x) (hl : xs.length < 64) (k : ∀ ys, (∀ y ∈ ys, NmD y) → ys.length = xs.length → R (.lst ys) st) : wp (sortedM (.lst xs)) R st := by
  show wp (guardM (decide (xs.length < 64)) _) R st
  rw [wp_guard]
  refine ⟨decide_eq_true hl, ?_⟩
  cases xs with
  | nil =>
    have e : sortI [] = [] := by simp [sortI]
    show wp (M.pure (D.lst ((sortI []).map D.int))) R st
    rw [wp_pure, e]
    exact k [] (fun _ h => absurd h List.not_mem_nil) rfl
  | cons x r =>
    obtain ⟨y, rfl, hy⟩ := h x List.mem_cons_self
    obtain ⟨ss, e, hss, hsl⟩ := nms h
    show wp ((opt (strsD (.str y :: r))).bind fun xs => M.pure (D.lst ((sortS xs).map D.str))) R st
    rw [wp_bind, e, wp_some, wp_pure]
    refine k _ (fun z hz => ?_) ?_
    · obtain ⟨w, hw, rfl⟩ := List.mem_map.mp hz
      exact ⟨w, rfl, hss w ((List.mergeSort_perm ss leS).mem_iff.mp hw)⟩
    · rw [List.length_map, ← hsl]
      exact (List.mergeSort_perm ss leS).length_eq
theorem spec_built {n : Nat} {st : Sto} {Q : D → Sto → Prop} (h : FOk n st) (q : ∀ x st', Pr x → FOk n st' → Same n st st' → Q x st') : wp (m_law_built [.ref n]) Q st := by
  refine w_run' [.val (.ref n), .no, .no, .no, .no, .no, .no, .no, .no, .no, .no] rfl ?_
  unfold s_law_built
  subst_eqs
  refine ⟨by show 8 ≤ sizeLine; decide, ?_⟩
  subst_eqs
  refine ⟨rfl, spec_draw h (by decide) (by decide) fun z s1 a1 b1 f1 sm1 => ?_⟩
  obtain ⟨dm, hdm, hdmem⟩ := atI_lt (xs := [D.int 3, .int 2, .int 4, .int 2, .int 3, .int 1, .int 0, .int 2]) a1 b1
  refine w_ixL hdm ?_
  obtain ⟨many, rfl, m0, m1⟩ : ∃ i : Int, dm = .int i ∧ 0 ≤ i ∧ i ≤ 4 := by
    simp only [List.mem_cons, List.not_mem_nil, or_false] at hdmem
    rcases hdmem with rfl | rfl | rfl | rfl | rfl | rfl | rfl | rfl <;> exact ⟨_, rfl, by decide, by decide⟩
  subst_eqs
  refine ⟨rfl, spec_names f1 m0 (by omega) fun fk s2 hfk hfl f2 sm2 => ?_⟩
  refine w_sortedN hfk (by omega) fun folk hfolk hfolkl => ?_
  subst_eqs
  refine ⟨rfl, spec_names f2 (by decide) (by decide) fun ways s3 hw hwl f3 sm3 => ?_⟩
  subst_eqs
  refine ⟨rfl, spec_names f3 (by decide) (by decide) fun lets s4 hle hlel f4 sm4 => ?_⟩
  subst_eqs
  refine ⟨rfl, spec_spots f4 fun spots s5 hsp hspn hspl f5 sm5 => ?_⟩
  subst_eqs
  refine ⟨by show 3 ≤ sizeLine; decide, [.val (.ref n), .val (.lst folk), .val (.lst ways), .val (.lst lets), .val (.lst spots), .no, .no, .no, .no, .no, .no], by simp [Pt.set, setAll], ?_⟩
  have hfl5 : folk.length ≤ 4 := by omega
  have sm15 := (((sm1.trans sm2).trans sm3).trans sm4).trans sm5
  -- behind the choice of the ways
  have main : ∀ (ws : List D) (s : Sto), (∀ w ∈ ws, NmD w) → ws.length ≤ 10 → FOk n s → Same n st s → wp (sSeq (sOwn 6 (fLst (aNil))) (sSeq (sFor (iSeq (e1 sortedM (eSl (eVar 2) oNo (oSo (eIf (tBl (e2 gtM (e1 lenM (eVar 1)) (eC (.int 1)))) (e2 ixM (eLst (aCons (eC (.int 2)) (aCons (eC (.int 3)) (aCons (eC (.int 1)) (aCons (eC (.int 4)) (aCons (eC (.int 0)) (aCons (eC (.int 6)) (aNil)))))))) (eCall 2 m_law_draw (aCons (eVar 0) (aCons (eC (.int 6)) (aNil))))) (eC (.int 0))))))) (.nm 5) (sSeq (sSet 7 (eCall 2 m_law_draw (aCons (eVar 0) (aCons (e1 lenM (eVar 1)) (aNil))))) (sSeq (sSet 8 (e2 modM (e1 intM (e2 addM (e2 addM (eVar 7) (eC (.int 1))) (eCall 2 m_law_draw (aCons (eVar 0) (aCons (e2 subM (e1 lenM (eVar 1)) (eC (.int 1))) (aNil)))))) (e1 lenM (eVar 1)))) (sApp 6 (eTup (aCons (eVar 5) (aCons (e2 ixM (eVar 1) (eVar 7)) (aCons (e2 ixM (eVar 1) (eVar 8)) (aCons (eCall 2 m_law_pick (aCons (eVar 0) (aCons (eLst (aCons (eC (.str "queue")) (aCons (eC (.str "bag")) (aCons (eC (.str "call")) (aNil))))) (aNil)))) (aNil)))))))))) (sSeq (sFrz 6 (sSet 9 (eL (eLc (iSeq (eVar 1)) (.nm 10) [10] (tTrue) (eCall 4 m_law_party (aCons (eVar 0) (aCons (eVar 10) (aCons (eCall 3 m_law_doings (aCons (eVar 10) (aCons (eVar 6) (aCons (eVar 3) (aNil))))) (aCons (eVar 4) (aNil)))))))))) (sRet (eTup (aCons (e1 tupM (eVar 9)) (aCons (e1 tupM (eLook 6)) (aNil))))))) [.val (.ref n), .val (.lst folk), .val (.lst ws), .val (.lst lets), .val (.lst spots), .no, .no, .no, .no, .no, .no]) (RunK Q) s := by
    intro ws s hws hwl fs sms
    subst_eqs
    refine ⟨by decide, ?_⟩
    refine k_seq (w_seq (w_for ?_))
    refine wp_mono (Q := fun ds s' => (∀ d ∈ ds, NmD d) ∧ ds.length ≤ 10 ∧ (ds ≠ [] → 1 < folk.length) ∧ FOk n s' ∧ Same n st s') ?_ fun ds s' ⟨hds, hdl, hd1, fs', sms'⟩ => ?_
    · subst_eqs
      refine k_if (fun hb => ?_) fun hb => ?_
      · have hb' : 1 < folk.length := by have := of_decide_eq_true hb; omega
        subst_eqs
        refine ⟨by show 6 ≤ sizeLine; decide, ?_⟩
        subst_eqs
        refine ⟨rfl, spec_draw fs (by decide) (by decide) fun z t a b ft smt => ?_⟩
        obtain ⟨dm, hdm, hdmem⟩ := atI_lt (xs := [D.int 2, .int 3, .int 1, .int 4, .int 0, .int 6]) a b
        refine w_ixL hdm ?_
        obtain ⟨i, rfl⟩ : ∃ i : Int, dm = .int i := by
          simp only [List.mem_cons, List.not_mem_nil, or_false] at hdmem
          rcases hdmem with rfl | rfl | rfl | rfl | rfl | rfl <;> exact ⟨_, rfl⟩
        subst_eqs
        refine w_sortedN (fun x hx => hws x (cut_mem hx)) (by have := cut_len ws none (some i); omega) fun ys hys hyl => ?_
        exact ⟨_, rfl, hys, by rw [hyl]; have := cut_len ws none (some i); omega, fun _ => hb', ft, sms.trans smt⟩
      · subst_eqs
        refine w_sortedN (fun x hx => hws x (cut_mem hx)) (by have := cut_len ws none (some 0); omega) fun ys hys hyl => ?_
        have e0 : (cutD ws none (some 0)).length = 0 := by
          unfold cutD
          rw [HT.sIx_none]
          show (List.take (HT.sIx ws.length ws.length (some ((0 : Nat) : Int)) - 0) _).length = 0
          rw [HT.sIx_nat]
          simp
        exact ⟨_, rfl, hys, by omega, fun hne => absurd (List.eq_nil_of_length_eq_zero (by omega)) hne, fs, sms⟩
    · refine for_each (fun j ρ s => ∃ x5 x7 x8 out, ρ = [.val (.ref n), .val (.lst folk), .val (.lst ws), .val (.lst lets), .val (.lst spots), x5, .own out, x7, x8, .no, .no] ∧ (∀ x ∈ out, Ch x) ∧ out.length = j ∧ FOk n s ∧ Same n st s) _ 0 _ _ ?_ ?_ ?_
      · rintro m d ρ s hm ⟨x5, x7, x8, out, rfl, hout, hlen, f0, sm0⟩
        have hmm := (List.getElem?_eq_some_iff.mp hm).1
        have h2 := hd1 (fun e => by rw [e] at hmm; exact absurd hmm (Nat.not_lt_zero _))
        have hdn := hds d (List.mem_of_getElem? hm)
        refine ⟨_, set_nm (by simp), ?_⟩
        subst_eqs
        refine ⟨rfl, spec_draw f0 (by omega) (by omega) fun z t a b ft smt => ?_⟩
        subst_eqs
        refine ⟨rfl, ?_⟩
        refine spec_draw ft (by show (0 : Int) < (folk.length : Int) - 1; omega) (by show (folk.length : Int) - 1 < 1073741824; omega) fun z2 t2 a2 b2 ft2 smt2 => ?_
        subst_eqs
        refine w_int2 (decide_eq_true (by omega)) ?_
        obtain ⟨p1, hp1, hm1⟩ := atI_lt (xs := folk) a b
        obtain ⟨p2, hp2, hm2⟩ := atI_lt (xs := folk) (Int.emod_nonneg (z + 1 + z2) (by omega)) (Int.emod_lt_of_pos (z + 1 + z2) (by omega))
        subst_eqs
        refine w_ixL hp1 ?_
        subst_eqs
        refine w_ixL hp2 ?_
        subst_eqs
        refine ⟨by show 3 ≤ sizeLine; decide, ?_⟩
        subst_eqs
        refine ⟨rfl, spec_pick ft2 (by decide) (by decide) fun fo t3 hfo ft3 smt3 => ?_⟩
        subst_eqs
        refine ⟨by show 4 ≤ sizeLine; decide, small (by omega), rfl, _, _, _, _, rfl, fun x hx => ?_, by rw [List.length_append]; simp; omega, ft3, ((sm0.trans smt).trans smt2).trans smt3⟩
        rcases List.mem_append.mp hx with h | h
        · exact hout x h
        · rw [List.mem_singleton.mp h]
          simp only [List.mem_cons, List.not_mem_nil, or_false] at hfo
          rcases hfo with rfl | rfl | rfl
          · exact ⟨_, _, _, _, hdn, hfolk p1 hm1, hfolk p2 hm2, .inl rfl, rfl⟩
          · exact ⟨_, _, _, _, hdn, hfolk p1 hm1, hfolk p2 hm2, .inr (.inl rfl), rfl⟩
          · exact ⟨_, _, _, _, hdn, hfolk p1 hm1, hfolk p2 hm2, .inr (.inr rfl), rfl⟩
      · exact ⟨_, _, _, [], rfl, fun _ h => absurd h List.not_mem_nil, rfl, fs', sms'⟩
      · rintro ρ s ⟨x5, x7, x8, out, rfl, hout, hlen, f0, sm0⟩
        refine k_seq (w_seq (w_frz (w_set (by simp [frz1]) (w_eL (w_lc ?_)))))
        refine w_iSeq (w_var rfl ⟨_, rfl, ?_⟩)
        refine lc_each (by simp [wipeE, frz1]) Pa (fun s' => FOk n s' ∧ Same n s s') _ _ (fun d hd s3 ⟨f3, sm3⟩ => ?_) ⟨f0, Same.refl _ _⟩ fun ps s4 hpl hps ⟨f4, sm4⟩ => ?_
        · subst_eqs
          refine ⟨rfl, spec_doings (hfolk d hd) hout (by omega) hle (by rw [hlel]; decide) (by rw [hlel]; decide) fun dos hdos hdne hdl => ?_⟩
          subst_eqs
          refine ⟨rfl, spec_party f3 (hfolk d hd) hdos hdne hdl hsp hspn hspl fun x st' hx _ fx smx => ⟨hx, fx, sm3.trans smx⟩⟩
        · subst_eqs
          refine ⟨by show 2 ≤ sizeLine; decide, ?_⟩
          subst_eqs
          exact q _ s4 ⟨ps, out, hps, by omega, hout, by omega, rfl⟩ f4 (sm0.trans sm4)
  subst_eqs
  refine ⟨rfl, spec_draw f5 (by decide) (by decide) fun z6 s6 a6 b6 f6 sm6 => ?_⟩
  subst_eqs
  refine w_eq shp_int.shp shp_int.shp ?_
  refine k_bl (k_if (fun _ => ?_) fun _ => ?_)
  · refine w_set (by simp) ?_
    have shfolk : (D.lst folk).shp = true := list_shp fun x hx => nmd_shp (hfolk x hx)
    subst_eqs
    refine ⟨_, rfl, ?_⟩
    refine lc_filter (by simp [wipeE]) (fun d => !folk.any fun z => z.eqv d) _ _ (fun d hd T k => ?_) ?_
    · subst_eqs
      exact w_notIn rfl (nmd_shp (hw d hd)).shp shfolk (k_bl k)
    · have hlf : (List.filter (fun d => !folk.any fun z => z.eqv d) ways).length ≤ 6 := Nat.le_trans (List.length_filter_le _ _) (by rw [hwl]; decide)
      refine w_addL (small (by omega)) ?_
      refine k_seq (main _ s6 (fun w hw' => ?_) (by rw [List.length_append]; omega) f6 (sm15.trans sm6))
      rcases List.mem_append.mp hw' with h | h
      · exact hfolk w h
      · exact hw w (List.mem_filter.mp h).1
  · exact w_nil (k_seq (main ways s6 hw (by rw [hwl]; decide) f6 (sm15.trans sm6)))
end PG

set_option linter.all false
set_option maxRecDepth 100000
set_option maxHeartbeats 4000000
namespace LK
open PySem PySem.Spec L2 PL
def topS (i : Nat) : Stmt := PySem.Challenge.pw_ascalls_k06_texts.main.body.getD i (.Pass ⟨0, 0, 0, 0⟩)
structure Blt (mg : Str → Option Value) : Prop where
  len : mg "len" = none
  all : mg "all" = none
  any : mg "any" = none
  range : mg "range" = none
  isinstance : mg "isinstance" = none
  int : mg "int" = none
  str : mg "str" = none
  tuple : mg "tuple" = none
  bool : mg "bool" = none
  list : mg "list" = none
  set : mg "set" = none
  sorted : mg "sorted" = none
  enumerate : mg "enumerate" = none
  sum : mg "sum" = none
section
variable {P : Program} {w : World} {K : PySem.W.Frag} {mg : Str → Option Value} {base : Heap}
theorem sc_doing_text : FnScope ["doing"] ["doing"] (defScope (topS 1)) := ⟨rfl, rfl, rfl, by decide +kernel, rfl, by decide +kernel, by decide +kernel⟩
def s_doing_text : En → M (Fl × En) := sRet (eM1 joinM (eC (.str " ")) (eVar 0))
def m_doing_text : List D → M D := runB 1 s_doing_text
theorem d_doing_text (F : Fn0 K mg "doing_text" (topS 1) ["doing"]) (B : Blt mg) : Own P w K mg base 1 "doing_text" ["doing"] m_doing_text :=
  own_def F sc_doing_text fun fa cdv A outer s H G μ E hr => by
    have hu := hr.units
    have hu1 := Nat.lt_of_le_of_lt (Nat.add_le_add_left (by decide : 1 ≤ 65) _) (hv_of hr)
    have hv := hv_of hr
    exact (jss_one (js_ret (je_join (JE.jb je_str) (JE.jb (jv 0)))))
theorem sc__ends_text : FnScope ["ends", "place"] ["ends"] (defScope (topS 3)) := ⟨rfl, rfl, rfl, by decide +kernel, rfl, by decide +kernel, by decide +kernel⟩
def s__ends_text : En → M (Fl × En) := sSeq (sIf (tBl (e2 eqM (e1 lenM (eVar 0)) (eC (.int 0)))) (sRet (eC (.str "-"))) (sNil)) (sRet (eM1 joinM (eC (.str ",")) (eL (eLc (iSeq (eVar 0)) (.nm 1) [1] (tTrue) (e1 strM (eVar 1))))))
def m__ends_text : List D → M D := runB 2 s__ends_text
theorem d__ends_text (F : Fn0 K mg "_ends_text" (topS 3) ["ends"]) (B : Blt mg) : Own P w K mg base 1 "_ends_text" ["ends"] m__ends_text :=
  own_def F sc__ends_text fun fa cdv A outer s H G μ E hr => by
    have hu := hr.units
    have hu1 := Nat.lt_of_le_of_lt (Nat.add_le_add_left (by decide : 1 ≤ 65) _) (hv_of hr)
    have hv := hv_of hr
    exact (jss_cons (js_if (jt_cmp (op_eqD hu) o_eq (JE.jb (je_callB call_len c_len (by rfl) B.len (by decide +kernel) (JE.jb (jv 0)))) (JE.jb je_int) (nomark _)) (jss_one (js_ret je_str)) jss_nil) (jss_one (js_ret (je_join (JE.jb je_str) (JE.jb (JF.je (jf_lc (own := [("place", 1)]) rfl sc__ends_text.nd (ji_seq (jv 0)) (blkOk_by (N := ["ends", "place"]) (sc := defScope (topS 3)) (by decide +kernel)) (by decide) (fun _ _ _ _ _ => (pg_name (i := 1) sc__ends_text.nd rfl (Or.inl rfl))) (fun _ _ _ _ _ => jts_nil) (fun _ _ _ _ _ => (je_callTy call_str_int c_str (by rfl) B.str (by decide +kernel) (JE.jb (jv 1)))))))))))
theorem sc_is_name : FnScope ["thing", "sign"] ["thing"] (defScope (topS 11)) := ⟨rfl, rfl, rfl, by decide +kernel, rfl, by decide +kernel, by decide +kernel⟩
def s_is_name : En → M (Fl × En) := sSeq (sIf (tNt (tBl (e1 (isiM "str") (eVar 0)))) (sRet (eC (.bl false))) (sNil)) (sRet (vAnd (eCh leM leM (eC (.int 1)) (e1 lenM (eVar 0)) (eC (.int 8))) (e1 allM (eL (eLc (iSeq (eVar 0)) (.nm 1) [1] (tTrue) (e2 inM (eVar 1) (eC (.str "abcdefghijklmnopqrstuvwxyz"))))))))
def m_is_name : List D → M D := runB 2 s_is_name
theorem d_is_name (F : Fn0 K mg "is_name" (topS 11) ["thing"]) (B : Blt mg) (c_LETTERS : Cn mg K "LETTERS" (.str "abcdefghijklmnopqrstuvwxyz")) : Own P w K mg base 1 "is_name" ["thing"] m_is_name :=
  own_def F sc_is_name fun fa cdv A outer s H G μ E hr => by
    have hu := hr.units
    have hu1 := Nat.lt_of_le_of_lt (Nat.add_le_add_left (by decide : 1 ≤ 65) _) (hv_of hr)
    have hv := hv_of hr
    exact (jss_cons (js_if (jt_not (jt_val (je_isi (by rfl) B.isinstance (by rfl) B.str (by decide +kernel) (jv 0)))) (jss_one (js_ret je_bl)) jss_nil) (jss_one (js_ret (je_and (je_chain op_leO o_le op_leO o_le (JE.jb je_int) (JE.jb (je_callB call_len c_len (by rfl) B.len (by decide +kernel) (JE.jb (jv 0)))) (JE.jb je_int)) (je_one (je_callB (cr_all rfl) c_all (by rfl) B.all (by decide +kernel) (JE.jb (JF.je (jf_lc (own := [("sign", 1)]) rfl sc_is_name.nd (ji_seq (jv 0)) (blkOk_by (N := ["thing", "sign"]) (sc := defScope (topS 11)) (by decide +kernel)) (by decide) (fun _ _ _ _ _ => (pg_name (i := 1) sc_is_name.nd rfl (Or.inl rfl))) (fun _ _ _ _ _ => jts_nil) (fun _ _ _ _ _ => (je_cmp (op_inB hv) o_in (JE.jb (jv 1)) (JE.jb (c_LETTERS.je (by rfl))) (by rfl))))))))))))
theorem sc_ascends : FnScope ["row", "k"] ["row"] (defScope (topS 12)) := ⟨rfl, rfl, rfl, by decide +kernel, rfl, by decide +kernel, by decide +kernel⟩
def s_ascends : En → M (Fl × En) := sRet (e1 allM (eL (eLc (iRange1 (aCons (e2 subM (e1 lenM (eVar 0)) (eC (.int 1))) (aNil))) (.nm 1) [1] (tTrue) (e2 ltM (e2 ixM (eVar 0) (eVar 1)) (e2 ixM (eVar 0) (e2 addM (eVar 1) (eC (.int 1))))))))
def m_ascends : List D → M D := runB 2 s_ascends
theorem d_ascends (F : Fn0 K mg "ascends" (topS 12) ["row"]) (B : Blt mg) : Own P w K mg base 1 "ascends" ["row"] m_ascends :=
  own_def F sc_ascends fun fa cdv A outer s H G μ E hr => by
    have hu := hr.units
    have hu1 := Nat.lt_of_le_of_lt (Nat.add_le_add_left (by decide : 1 ≤ 65) _) (hv_of hr)
    have hv := hv_of hr
    exact (jss_one (js_ret (je_callB (cr_all rfl) c_all (by rfl) B.all (by decide +kernel) (JE.jb (JF.je (jf_lc (own := [("k", 1)]) rfl sc_ascends.nd (ji_range1 (by rfl) B.range (ja_cons (je_op op_sub o_sub (JE.jb (je_callB call_len c_len (by rfl) B.len (by decide +kernel) (JE.jb (jv 0)))) (JE.jb je_int)) ja_nil)) (blkOk_by (N := ["row", "k"]) (sc := defScope (topS 12)) (by decide +kernel)) (by decide) (fun _ _ _ _ _ => (pg_name (i := 1) sc_ascends.nd rfl (Or.inl rfl))) (fun _ _ _ _ _ => jts_nil) (fun _ _ _ _ _ => (je_cmp op_ltO o_lt (JE.jb (je_ix ix_seq o_ix (JE.jb (jv 0)) (JE.jb (jv 1)) (fun _ _ => rfl))) (JE.jb (je_ix ix_seq o_ix (JE.jb (jv 0)) (JE.jb (je_op op_addA o_add (JE.jb (jv 1)) (JE.jb je_int))) (fun _ _ => rfl))) (nomark _)))))))))
theorem sc_doing_kinds : FnScope ["words"] ["words"] (defScope (topS 20)) := ⟨rfl, rfl, rfl, by decide +kernel, rfl, by decide +kernel, by decide +kernel⟩
def s_doing_kinds : En → M (Fl × En) := sSeq (sIf (tAn (tBl (e2 gtM (e1 lenM (eVar 0)) (eC (.int 0)))) (tBl (e2 eqM (e2 ixM (eVar 0) (eC (.int 0))) (eC (.str "do"))))) (sRet (eTup (aCons (eTup (aCons (eC (.str "do")) (aNil))) (aCons (eC (.str "name")) (aNil))))) (sNil)) (sRet (eTup (aCons (eTup (aCons (eC (.str "put")) (aCons (eC (.str "take")) (aNil)))) (aCons (eC (.str "name")) (aCons (eC (.str "name")) (aNil))))))
def m_doing_kinds : List D → M D := runB 1 s_doing_kinds
theorem d_doing_kinds (F : Fn0 K mg "doing_kinds" (topS 20) ["words"]) (B : Blt mg) : Own P w K mg base 1 "doing_kinds" ["words"] m_doing_kinds :=
  own_def F sc_doing_kinds fun fa cdv A outer s H G μ E hr => by
    have hu := hr.units
    have hu1 := Nat.lt_of_le_of_lt (Nat.add_le_add_left (by decide : 1 ≤ 65) _) (hv_of hr)
    have hv := hv_of hr
    exact (jss_cons (js_if (JW.jt (jw_and (jt_cmp op_gtO o_gt (JE.jb (je_callB call_len c_len (by rfl) B.len (by decide +kernel) (JE.jb (jv 0)))) (JE.jb je_int) (nomark _)) (jw_and1 (jt_cmp (op_eqD hu) o_eq (JE.jb (je_ix ix_seq o_ix (JE.jb (jv 0)) (JE.jb je_int) (fun _ _ => rfl))) (JE.jb je_str) (nomark _))))) (jss_one (js_ret (je_tup (ja_cons (je_tup (ja_cons je_str ja_nil)) (ja_cons je_str ja_nil))))) jss_nil) (jss_one (js_ret (je_tup (ja_cons (je_tup (ja_cons je_str (ja_cons je_str ja_nil))) (ja_cons je_str (ja_cons je_str ja_nil)))))))
theorem sc_arrow_kinds : FnScope ["words", "party"] ["words", "party"] (defScope (topS 21)) := ⟨rfl, rfl, rfl, by decide +kernel, rfl, by decide +kernel, by decide +kernel⟩
def s_arrow_kinds : En → M (Fl × En) := sRet (e2 addM (e2 addM (eTup (aCons (eTup (aCons (eC (.str "arrow")) (aNil))) (aCons (eVar 1) (aCons (eC (.str "number")) (aNil))))) (eCall 1 m_doing_kinds (aCons (eSl (eVar 0) (oSo (eC (.int 3))) oNo) (aNil)))) (eTup (aCons (eC (.str "number")) (aNil))))
def m_arrow_kinds : List D → M D := runB 2 s_arrow_kinds
theorem d_arrow_kinds (F : Fn0 K mg "arrow_kinds" (topS 21) ["words", "party"]) (B : Blt mg) (o_doing_kinds : Own P w K mg base 1 "doing_kinds" ["words"] m_doing_kinds) : Own P w K mg base 2 "arrow_kinds" ["words", "party"] m_arrow_kinds :=
  own_def F sc_arrow_kinds fun fa cdv A outer s H G μ E hr => by
    have hu := hr.units
    have hu1 := Nat.lt_of_le_of_lt (Nat.add_le_add_left (by decide : 1 ≤ 65) _) (hv_of hr)
    have hv := hv_of hr
    exact (jss_one (js_ret (je_op op_addA o_add (JE.jb (je_op op_addA o_add (JE.jb (je_tup (ja_cons (je_tup (ja_cons je_str ja_nil)) (ja_cons (jv 1) (ja_cons je_str ja_nil))))) (JE.jb (jcall o_doing_kinds (hr.mono (by decide)) (pd rfl rfl rfl rfl) (ja_cons (je_slice (JE.jb (jv 0)) (jo_so je_int) jo_no) ja_nil))))) (JE.jb (je_tup (ja_cons je_str ja_nil))))))
theorem sc_arrow_read : FnScope ["words"] ["words"] (defScope (topS 22)) := ⟨rfl, rfl, rfl, by decide +kernel, rfl, by decide +kernel, by decide +kernel⟩
def s_arrow_read : En → M (Fl × En) := sRet (eTup (aCons (e1 intM (e2 ixM (eVar 0) (eC (.int 2)))) (aCons (e1 tupM (eSl (eVar 0) (oSo (eC (.int 3))) (oSo (eNeg (eC (.int 1)))))) (aCons (e1 intM (e2 ixM (eVar 0) (eNeg (eC (.int 1))))) (aNil)))))
def m_arrow_read : List D → M D := runB 1 s_arrow_read
theorem d_arrow_read (F : Fn0 K mg "arrow_read" (topS 22) ["words"]) (B : Blt mg) : Own P w K mg base 1 "arrow_read" ["words"] m_arrow_read :=
  own_def F sc_arrow_read fun fa cdv A outer s H G μ E hr => by
    have hu := hr.units
    have hu1 := Nat.lt_of_le_of_lt (Nat.add_le_add_left (by decide : 1 ≤ 65) _) (hv_of hr)
    have hv := hv_of hr
    exact (jss_one (js_ret (je_tup (ja_cons (je_callTy call_intA c_int (by rfl) B.int (by decide +kernel) (JE.jb (je_ix ix_seq o_ix (JE.jb (jv 0)) (JE.jb je_int) (fun _ _ => rfl)))) (ja_cons (je_callTy call_tuple_of c_tup (by rfl) B.tuple (by decide +kernel) (JE.jb (je_slice (JE.jb (jv 0)) (jo_so je_int) (jo_so (je_neg je_int))))) (ja_cons (je_callTy call_intA c_int (by rfl) B.int (by decide +kernel) (JE.jb (je_ix ix_seq o_ix (JE.jb (jv 0)) (JE.jb (je_neg je_int)) (fun _ _ => rfl)))) ja_nil))))))
theorem sc_is_number_word : FnScope ["word", "sign"] ["word"] (defScope (topS 23)) := ⟨rfl, rfl, rfl, by decide +kernel, rfl, by decide +kernel, by decide +kernel⟩
def s_is_number_word : En → M (Fl × En) := sSeq (sIf (tOor (tNt (tBl (eCh leM leM (eC (.int 1)) (e1 lenM (eVar 0)) (eC (.int 60))))) (tNt (tBl (e1 allM (eL (eLc (iSeq (eVar 0)) (.nm 1) [1] (tTrue) (e2 inM (eVar 1) (eC (.str "0123456789"))))))))) (sRet (eC (.bl false))) (sNil)) (sRet (vOr (e2 eqM (eVar 0) (eC (.str "0"))) (e2 neM (e2 ixM (eVar 0) (eC (.int 0))) (eC (.str "0")))))
def m_is_number_word : List D → M D := runB 2 s_is_number_word
theorem d_is_number_word (F : Fn0 K mg "is_number_word" (topS 23) ["word"]) (B : Blt mg) (c_MOST_DIGITS : Cn mg K "MOST_DIGITS" (.int 60)) (c_DIGITS : Cn mg K "DIGITS" (.str "0123456789")) : Own P w K mg base 1 "is_number_word" ["word"] m_is_number_word :=
  own_def F sc_is_number_word fun fa cdv A outer s H G μ E hr => by
    have hu := hr.units
    have hu1 := Nat.lt_of_le_of_lt (Nat.add_le_add_left (by decide : 1 ≤ 65) _) (hv_of hr)
    have hv := hv_of hr
    exact (jss_cons (js_if (JW.jt (jw_or (jt_not (jt_chain op_leO o_le op_leO o_le (JE.jb je_int) (JE.jb (je_callB call_len c_len (by rfl) B.len (by decide +kernel) (JE.jb (jv 0)))) (JE.jb (c_MOST_DIGITS.je (by rfl))))) (jw_or1 (jt_not (jt_val (je_callB (cr_all rfl) c_all (by rfl) B.all (by decide +kernel) (JE.jb (JF.je (jf_lc (own := [("sign", 1)]) rfl sc_is_number_word.nd (ji_seq (jv 0)) (blkOk_by (N := ["word", "sign"]) (sc := defScope (topS 23)) (by decide +kernel)) (by decide) (fun _ _ _ _ _ => (pg_name (i := 1) sc_is_number_word.nd rfl (Or.inl rfl))) (fun _ _ _ _ _ => jts_nil) (fun _ _ _ _ _ => (je_cmp (op_inB hv) o_in (JE.jb (jv 1)) (JE.jb (c_DIGITS.je (by rfl))) (by rfl)))))))))))) (jss_one (js_ret je_bl)) jss_nil) (jss_one (js_ret (je_or (je_cmp (op_eqD hu) o_eq (JE.jb (jv 0)) (JE.jb je_str) (nomark _)) (je_one (je_cmp (op_neD hu) o_ne (JE.jb (je_ix ix_seq o_ix (JE.jb (jv 0)) (JE.jb je_int) (fun _ _ => rfl))) (JE.jb je_str) (nomark _)))))))
theorem sc_ends_read : FnScope ["word", "parts", "part", "ends"] ["word"] (defScope (topS 24)) := ⟨rfl, rfl, rfl, by decide +kernel, rfl, by decide +kernel, by decide +kernel⟩
def s_ends_read : En → M (Fl × En) := sSeq (sIf (tBl (e2 eqM (eVar 0) (eC (.str "-")))) (sRet (eTup (aNil))) (sNil)) (sSeq (sSet 1 (eM1 splitM (eVar 0) (eC (.str ",")))) (sSeq (sIf (tNt (tBl (e1 allM (eL (eLc (iSeq (eVar 1)) (.nm 2) [2] (tTrue) (eCall 1 m_is_number_word (aCons (eVar 2) (aNil)))))))) (sRet (eC .non)) (sNil)) (sSeq (sSet 3 (e1 tupM (eL (eLc (iSeq (eVar 1)) (.nm 2) [2] (tTrue) (e1 intM (eVar 2)))))) (sRet (eIf (tBl (eCall 1 m_ascends (aCons (eVar 3) (aNil)))) (eVar 3) (eC .non))))))
def m_ends_read : List D → M D := runB 4 s_ends_read
theorem d_ends_read (F : Fn0 K mg "ends_read" (topS 24) ["word"]) (B : Blt mg) (o_is_number_word : Own P w K mg base 1 "is_number_word" ["word"] m_is_number_word) (o_ascends : Own P w K mg base 1 "ascends" ["row"] m_ascends) : Own P w K mg base 2 "ends_read" ["word"] m_ends_read :=
  own_def F sc_ends_read fun fa cdv A outer s H G μ E hr => by
    have hu := hr.units
    have hu1 := Nat.lt_of_le_of_lt (Nat.add_le_add_left (by decide : 1 ≤ 65) _) (hv_of hr)
    have hv := hv_of hr
    exact (jss_cons (js_if (jt_cmp (op_eqD hu) o_eq (JE.jb (jv 0)) (JE.jb je_str) (nomark _)) (jss_one (js_ret (je_tup ja_nil))) jss_nil) (jss_cons (js_set (i := 1) sc_ends_read.nd rfl (Or.inl rfl) (je_split (JE.jb (jv 0)) (JE.jb je_str))) (jss_cons (js_if (jt_not (jt_val (je_callB (cr_all rfl) c_all (by rfl) B.all (by decide +kernel) (JE.jb (JF.je (jf_lc (own := [("part", 2)]) rfl sc_ends_read.nd (ji_seq (jv 1)) (blkOk_by (N := ["word", "parts", "part", "ends"]) (sc := defScope (topS 24)) (by decide +kernel)) (by decide) (fun _ _ _ _ _ => (pg_name (i := 2) sc_ends_read.nd rfl (Or.inl rfl))) (fun _ _ _ _ _ => jts_nil) (fun _ _ _ _ _ => (jcall o_is_number_word (hr.mono (by decide)) px (ja_cons (jv 2) ja_nil))))))))) (jss_one (js_ret je_non)) jss_nil) (jss_cons (js_set (i := 3) sc_ends_read.nd rfl (Or.inl rfl) (je_callTy call_tuple_of c_tup (by rfl) B.tuple (by decide +kernel) (JE.jb (JF.je (jf_lc (own := [("part", 2)]) rfl sc_ends_read.nd (ji_seq (jv 1)) (blkOk_by (N := ["word", "parts", "part", "ends"]) (sc := defScope (topS 24)) (by decide +kernel)) (by decide) (fun _ _ _ _ _ => (pg_name (i := 2) sc_ends_read.nd rfl (Or.inl rfl))) (fun _ _ _ _ _ => jts_nil) (fun _ _ _ _ _ => (je_callTy call_intA c_int (by rfl) B.int (by decide +kernel) (JE.jb (jv 2))))))))) (jss_one (js_ret (je_if (jt_val (jcall o_ascends (hr.mono (by decide)) (pd rfl rfl rfl rfl) (ja_cons (jv 3) ja_nil))) (jv 3) je_non)))))))
theorem sc__line_kinds : FnScope ["words", "parties"] ["words", "parties"] (defScope (topS 25)) := ⟨rfl, rfl, rfl, by decide +kernel, rfl, by decide +kernel, by decide +kernel⟩
def s__line_kinds : En → M (Fl × En) := sSeq (sIf (tBl (e2 eqM (e2 ixM (eVar 0) (eC (.int 0))) (eC (.str "party")))) (sRet (eTup (aCons (eTup (aCons (eC (.str "party")) (aNil))) (aCons (eC (.str "name")) (aCons (eC (.str "ends")) (aNil)))))) (sNil)) (sSeq (sIf (tBl (e2 gtM (e1 (dr1 lenM) (eVar 1)) (eC (.int 0)))) (sRet (eCall 2 m_arrow_kinds (aCons (eVar 0) (aCons (eTup (aCons (e2 ixM (e2 (drL ixM) (eVar 1) (eNeg (eC (.int 1)))) (eC (.int 0))) (aNil))) (aNil))))) (sNil)) (sRet (eTup (aCons (eTup (aCons (eC (.str "channel")) (aNil))) (aCons (eC (.str "name")) (aCons (eC (.str "name")) (aCons (eC (.str "name")) (aCons (eC (.tup [(.str "queue"), (.str "bag"), (.str "call")])) (aNil)))))))))
def m__line_kinds : List D → M D := runB 2 s__line_kinds
theorem d__line_kinds (F : Fn0 K mg "_line_kinds" (topS 25) ["words", "parties"]) (B : Blt mg) (o_arrow_kinds : Own P w K mg base 2 "arrow_kinds" ["words", "party"] m_arrow_kinds) (c_FORMS : Cn mg K "FORMS" (.tup [(.str "queue"), (.str "bag"), (.str "call")])) : Own P w K mg base 3 "_line_kinds" ["words", "parties"] m__line_kinds :=
  own_def F sc__line_kinds fun fa cdv A outer s H G μ E hr => by
    have hu := hr.units
    have hu1 := Nat.lt_of_le_of_lt (Nat.add_le_add_left (by decide : 1 ≤ 65) _) (hv_of hr)
    have hv := hv_of hr
    exact (jss_cons (js_if (jt_cmp (op_eqD hu) o_eq (JE.jb (je_ix ix_seq o_ix (JE.jb (jv 0)) (JE.jb je_int) (fun _ _ => rfl))) (JE.jb je_str) (nomark _)) (jss_one (js_ret (je_tup (ja_cons (je_tup (ja_cons je_str ja_nil)) (ja_cons je_str (ja_cons je_str ja_nil)))))) jss_nil) (jss_cons (js_if (jt_cmp op_gtO o_gt (JE.jb (je_callB call_len (dr_c c_len) (by rfl) B.len (by decide +kernel) (JE.jb (jv 1)))) (JE.jb je_int) (nomark _)) (jss_one (js_ret (jcall o_arrow_kinds (hr.mono (by decide)) (pd rfl rfl rfl rfl) (ja_cons (jv 0) (ja_cons (je_tup (ja_cons (je_ix ix_seq o_ix (JE.jb (je_ix ix_seq (dr_l o_ix) (JE.jb (jv 1)) (JE.jb (je_neg je_int)) (fun _ _ => rfl))) (JE.jb je_int) (fun _ _ => rfl)) ja_nil)) ja_nil))))) jss_nil) (jss_one (js_ret (je_tup (ja_cons (je_tup (ja_cons je_str ja_nil)) (ja_cons je_str (ja_cons je_str (ja_cons je_str (ja_cons (c_FORMS.je (by rfl)) ja_nil))))))))))
theorem sc__is_of_kind : FnScope ["word", "kind"] ["word", "kind"] (defScope (topS 26)) := ⟨rfl, rfl, rfl, by decide +kernel, rfl, by decide +kernel, by decide +kernel⟩
def s__is_of_kind : En → M (Fl × En) := sSeq (sIf (tBl (e1 (isiM "tuple") (eVar 1))) (sRet (e2 inM (eVar 0) (eVar 1))) (sNil)) (sSeq (sIf (tBl (e2 eqM (eVar 1) (eC (.str "name")))) (sRet (eCall 1 m_is_name (aCons (eVar 0) (aNil)))) (sNil)) (sSeq (sIf (tBl (e2 eqM (eVar 1) (eC (.str "number")))) (sRet (eCall 1 m_is_number_word (aCons (eVar 0) (aNil)))) (sNil)) (sRet (e1 notNM (eCall 1 m_ends_read (aCons (eVar 0) (aNil)))))))
def m__is_of_kind : List D → M D := runB 2 s__is_of_kind
theorem d__is_of_kind (F : Fn0 K mg "_is_of_kind" (topS 26) ["word", "kind"]) (B : Blt mg) (o_is_name : Own P w K mg base 1 "is_name" ["thing"] m_is_name) (o_is_number_word : Own P w K mg base 1 "is_number_word" ["word"] m_is_number_word) (o_ends_read : Own P w K mg base 2 "ends_read" ["word"] m_ends_read) : Own P w K mg base 3 "_is_of_kind" ["word", "kind"] m__is_of_kind :=
  own_def F sc__is_of_kind fun fa cdv A outer s H G μ E hr => by
    have hu := hr.units
    have hu1 := Nat.lt_of_le_of_lt (Nat.add_le_add_left (by decide : 1 ≤ 65) _) (hv_of hr)
    have hv := hv_of hr
    exact (jss_cons (js_if (jt_val (je_isi (by rfl) B.isinstance (by rfl) B.tuple (by decide +kernel) (jv 1))) (jss_one (js_ret (je_cmp (op_inB hv) o_in (JE.jb (jv 0)) (JE.jb (jv 1)) (by rfl)))) jss_nil) (jss_cons (js_if (jt_cmp (op_eqD hu) o_eq (JE.jb (jv 1)) (JE.jb je_str) (nomark _)) (jss_one (js_ret (jcall o_is_name (hr.mono (by decide)) (pd rfl rfl rfl rfl) (ja_cons (jv 0) ja_nil)))) jss_nil) (jss_cons (js_if (jt_cmp (op_eqD hu) o_eq (JE.jb (jv 1)) (JE.jb je_str) (nomark _)) (jss_one (js_ret (jcall o_is_number_word (hr.mono (by decide)) (pd rfl rfl rfl rfl) (ja_cons (jv 0) ja_nil)))) jss_nil) (jss_one (js_ret (je_notN (jcall o_ends_read (hr.mono (by decide)) (pd rfl rfl rfl rfl) (ja_cons (jv 0) ja_nil))))))))
theorem sc__law_feed : FnScope ["_law_script", "_law_cell"] ["_law_script"] (defScope (topS 28)) := ⟨rfl, rfl, rfl, by decide +kernel, rfl, by decide +kernel, by decide +kernel⟩
theorem d__law_feed (F : Fn0 K mg "_law_feed" (topS 28) ["_law_script"]) (B : Blt mg) : Own P w K mg base 1 "_law_feed" ["_law_script"] PG.m_law_feed :=
  own_def F sc__law_feed fun fa cdv A outer s H G μ E hr => by
    have hu := hr.units
    have hu1 := Nat.lt_of_le_of_lt (Nat.add_le_add_left (by decide : 1 ≤ 65) _) (hv_of hr)
    have hv := hv_of hr
    exact (jss_one (js_ret (je_dict (.cons (JF.je (jf_lc (own := [("_law_cell", 1)]) rfl sc__law_feed.nd (ji_seq (je_slice (JE.jb (jv 0)) jo_no (jo_so je_int))) (blkOk_by (N := ["_law_script", "_law_cell"]) (sc := defScope (topS 28)) (by decide +kernel)) (by decide) (fun _ _ _ _ _ => (pg_name (i := 1) sc__law_feed.nd rfl (Or.inl rfl))) (fun _ _ _ _ _ => jts_nil) (fun _ _ _ _ _ => (je_callTy call_intA c_int (by rfl) B.int (by decide +kernel) (JE.jb (jv 1)))))) (.cons je_int (.cons je_int (.cons je_int .nil)))))))
theorem sc__law_draw : FnScope ["_law_feed_here", "_law_many", "_law_digit", "_law_cells", "_law_at", "_law_cell", "_law_mixed"] ["_law_feed_here", "_law_many"] (defScope (topS 29)) := ⟨rfl, rfl, rfl, by decide +kernel, rfl, by decide +kernel, by decide +kernel⟩
theorem d__law_draw (F : Fn0 K mg "_law_draw" (topS 29) ["_law_feed_here", "_law_many"]) (B : Blt mg) : Own P w K mg base 1 "_law_draw" ["_law_feed_here", "_law_many"] PG.m_law_draw :=
  own_def F sc__law_draw fun fa cdv A outer s H G μ E hr => by
    have hu := hr.units
    have hu1 := Nat.lt_of_le_of_lt (Nat.add_le_add_left (by decide : 1 ≤ 65) _) (hv_of hr)
    have hv := hv_of hr
    exact (jss_cons (js_dput hu1 (jv 0) je_str (je_op op_addA o_add (JE.jb (je_dget hu1 (jv 0) je_str)) (JE.jb je_int))) (jss_cons (js_if (jt_cmp op_gtO o_gt (JE.jb (je_dget hu1 (jv 0) je_str)) (JE.jb je_int) (nomark _)) (jss_cons (js_set (i := 2) sc__law_draw.nd rfl (Or.inl rfl) (je_op op_mod o_mod (JE.jb (je_callTy call_intA c_int (by rfl) B.int (by decide +kernel) (JE.jb (je_dget hu1 (jv 0) je_str)))) (JE.jb (jv 1)))) (jss_cons (js_dput hu1 (jv 0) je_str (je_op op_fdiv o_fdiv (JE.jb (je_dget hu1 (jv 0) je_str)) (JE.jb (jv 1)))) (jss_one (js_ret (jv 2))))) jss_nil) (jss_cons (js_par (i := 3) (j := 4) rfl sc__law_draw.nd rfl rfl (je_dget hu1 (jv 0) je_str) (je_dget hu1 (jv 0) je_str)) (jss_cons (js_dput hu1 (jv 0) je_str (je_op op_addA o_add (JE.jb (jv 4)) (JE.jb je_int))) (jss_cons (js_set (i := 5) sc__law_draw.nd rfl (Or.inl rfl) (je_if (jt_cmp (op_neD hu) o_ne (JE.jb (jv 3)) (JE.jb (je_lst ja_nil)) (nomark _)) (je_ix ix_seq o_ix (JE.jb (jv 3)) (JE.jb (je_op op_mod o_mod (JE.jb (je_callTy call_intA c_int (by rfl) B.int (by decide +kernel) (JE.jb (jv 4)))) (JE.jb (je_callB call_len c_len (by rfl) B.len (by decide +kernel) (JE.jb (jv 3)))))) (fun _ _ => rfl)) je_int)) (jss_cons (js_if (JW.jt (jw_and (jt_cmp op_geO o_ge (JE.jb (jv 5)) (JE.jb (je_op op_pow o_pow (JE.jb je_int) (JE.jb je_int))) (nomark _)) (jw_and1 (jt_cmp op_ltO o_lt (JE.jb (jv 4)) (JE.jb (je_callB call_len c_len (by rfl) B.len (by decide +kernel) (JE.jb (jv 3)))) (nomark _))))) (jss_cons (js_dput hu1 (jv 0) je_str (je_op op_fdiv o_fdiv (JE.jb (jv 5)) (JE.jb (jv 1)))) (jss_one (js_ret (je_op op_mod o_mod (JE.jb (je_callTy call_intA c_int (by rfl) B.int (by decide +kernel) (JE.jb (jv 5)))) (JE.jb (jv 1)))))) jss_nil) (jss_cons (js_set (i := 6) sc__law_draw.nd rfl (Or.inl rfl) (je_op op_mod o_mod (JE.jb (je_callTy call_intA c_int (by rfl) B.int (by decide +kernel) (JE.jb (je_op op_addA o_add (JE.jb (je_op op_addA o_add (JE.jb (je_op op_mod o_mod (JE.jb (je_callTy call_intA c_int (by rfl) B.int (by decide +kernel) (JE.jb (jv 5)))) (JE.jb je_int))) (JE.jb (je_op op_mul o_mul (JE.jb je_int) (JE.jb (je_dget hu1 (jv 0) je_str)))))) (JE.jb je_int))))) (JE.jb je_int))) (jss_cons (js_set (i := 6) sc__law_draw.nd rfl (Or.inl rfl) (je_op op_mod o_mod (JE.jb (je_callTy call_intA c_int (by rfl) B.int (by decide +kernel) (JE.jb (je_op op_addA o_add (JE.jb (je_op op_addA o_add (JE.jb (je_op op_mul o_mul (JE.jb (jv 6)) (JE.jb (jv 6)))) (JE.jb (je_op op_mul o_mul (JE.jb je_int) (JE.jb (je_dget hu1 (jv 0) je_str)))))) (JE.jb je_int))))) (JE.jb je_int))) (jss_cons (js_set (i := 6) sc__law_draw.nd rfl (Or.inl rfl) (je_op op_mod o_mod (JE.jb (je_callTy call_intA c_int (by rfl) B.int (by decide +kernel) (JE.jb (je_op op_addA o_add (JE.jb (je_op op_mul o_mul (JE.jb (jv 6)) (JE.jb (jv 6)))) (JE.jb (je_op op_mul o_mul (JE.jb je_int) (JE.jb (jv 6)))))))) (JE.jb je_int))) (jss_one (js_ret (je_op op_mod o_mod (JE.jb (je_callTy call_intA c_int (by rfl) B.int (by decide +kernel) (JE.jb (je_op op_fdiv o_fdiv (JE.jb (jv 6)) (JE.jb je_int))))) (JE.jb (jv 1))))))))))))))
theorem sc__law_pick : FnScope ["_law_feed_here", "_law_things"] ["_law_feed_here", "_law_things"] (defScope (topS 30)) := ⟨rfl, rfl, rfl, by decide +kernel, rfl, by decide +kernel, by decide +kernel⟩
theorem d__law_pick (F : Fn0 K mg "_law_pick" (topS 30) ["_law_feed_here", "_law_things"]) (B : Blt mg) (o__law_draw : Own P w K mg base 1 "_law_draw" ["_law_feed_here", "_law_many"] PG.m_law_draw) : Own P w K mg base 2 "_law_pick" ["_law_feed_here", "_law_things"] PG.m_law_pick :=
  own_def F sc__law_pick fun fa cdv A outer s H G μ E hr => by
    have hu := hr.units
    have hu1 := Nat.lt_of_le_of_lt (Nat.add_le_add_left (by decide : 1 ≤ 65) _) (hv_of hr)
    have hv := hv_of hr
    exact (jss_one (js_ret (je_ix ix_seq o_ix (JE.jb (jv 1)) (JE.jb (jcall o__law_draw (hr.mono (by decide)) (pd rfl rfl rfl rfl) (ja_cons (jv 0) (ja_cons (je_callB call_len c_len (by rfl) B.len (by decide +kernel) (JE.jb (jv 1))) ja_nil)))) (fun _ _ => rfl))))
theorem sc__law_names : FnScope ["_law_feed_here", "_law_many", "_law_signs", "_law_words_here", "_law_way", "_law_size", "_law_stem", "_law_lap", "_law_cut", "_law_found", "_law_name", "_law_k", "_law_sign"] ["_law_feed_here", "_law_many"] (defScope (topS 31)) := ⟨rfl, rfl, rfl, by decide +kernel, rfl, by decide +kernel, by decide +kernel⟩
theorem d__law_names (F : Fn0 K mg "_law_names" (topS 31) ["_law_feed_here", "_law_many"]) (B : Blt mg) (o__law_draw : Own P w K mg base 1 "_law_draw" ["_law_feed_here", "_law_many"] PG.m_law_draw) (o__law_pick : Own P w K mg base 2 "_law_pick" ["_law_feed_here", "_law_things"] PG.m_law_pick) : Own P w K mg base 3 "_law_names" ["_law_feed_here", "_law_many"] PG.m_law_names :=
  own_def F sc__law_names fun fa cdv A outer s H G μ E hr => by
    have hu := hr.units
    have hu1 := Nat.lt_of_le_of_lt (Nat.add_le_add_left (by decide : 1 ≤ 65) _) (hv_of hr)
    have hv := hv_of hr
    exact (jss_cons (js_set (i := 2) sc__law_names.nd rfl (Or.inr rfl) je_str) (jss_cons (js_set (i := 3) sc__law_names.nd rfl (Or.inl rfl) (je_lst (ja_cons je_str (ja_cons je_str (ja_cons je_str (ja_cons je_str (ja_cons je_str (ja_cons je_str (ja_cons je_str (ja_cons je_str (ja_cons je_str (ja_cons je_str (ja_cons je_str (ja_cons je_str (ja_cons je_str ja_nil))))))))))))))) (jss_cons (js_par (i := 4) (j := 5) rfl sc__law_names.nd rfl rfl (jcall o__law_draw (hr.mono (by decide)) (pd rfl rfl rfl rfl) (ja_cons (jv 0) (ja_cons je_int ja_nil))) (jcall o__law_draw (hr.mono (by decide)) (pd rfl rfl rfl rfl) (ja_cons (jv 0) (ja_cons je_int ja_nil)))) (jss_cons (js_set (i := 6) sc__law_names.nd rfl (Or.inl rfl) (je_join (JE.jb je_str) (JE.jb (JF.je (jf_lc (own := [("_law_lap", 7)]) rfl sc__law_names.nd (ji_range1 (by rfl) B.range (ja_cons (jv 5) ja_nil)) (blkOk_by (N := ["_law_feed_here", "_law_many", "_law_signs", "_law_words_here", "_law_way", "_law_size", "_law_stem", "_law_lap", "_law_cut", "_law_found", "_law_name", "_law_k", "_law_sign"]) (sc := defScope (topS 31)) (by decide +kernel)) (by decide) (fun _ _ _ _ _ => (pg_name (i := 7) sc__law_names.nd rfl (Or.inl rfl))) (fun _ _ _ _ _ => jts_nil) (fun _ _ _ _ _ => (je_ix ix_seq o_ix (JE.jb (jv 2)) (JE.jb (jcall o__law_draw (hr.mono (by decide)) px (ja_cons (jv 0) (ja_cons je_int ja_nil)))) (fun _ _ => rfl)))))))) (jss_cons (js_parOC (i := 8) (j := 9) rfl (pg_tup rfl (pgs_cons (pg_name (i := 8) sc__law_names.nd rfl (Or.inl rfl)) (pgs_cons (pg_name (i := 9) sc__law_names.nd rfl (Or.inr rfl)) pgs_nil))) (jcall o__law_draw (hr.mono (by decide)) (pd rfl rfl rfl rfl) (ja_cons (jv 0) (ja_cons (je_op op_addA o_add (JE.jb (jv 5)) (JE.jb je_int)) ja_nil))) (jf_lst ja_nil)) (jss_cons (js_for (passes_of rfl) rfl (ji_range1 (by rfl) B.range (ja_cons (jv 1) ja_nil)) (pg_name (i := 7) sc__law_names.nd rfl (Or.inl rfl)) (fun _ _ => (jss_cons (js_set (i := 10) sc__law_names.nd rfl (Or.inl rfl) (je_op op_addA o_add (JE.jb (je_op op_addA o_add (JE.jb (je_slice (JE.jb (jv 6)) jo_no (jo_so (jv 8)))) (JE.jb (je_ix ix_seq o_ix (JE.jb (jv 2)) (JE.jb (jcall o__law_draw (hr.mono (by decide)) (pd rfl rfl rfl rfl) (ja_cons (jv 0) (ja_cons je_int ja_nil)))) (fun _ _ => rfl))))) (JE.jb (je_slice (JE.jb (jv 6)) (jo_so (jv 8)) jo_no)))) (jss_cons (js_if (jt_cmp (op_eqD hu) o_eq (JE.jb (jv 4)) (JE.jb je_int) (nomark _)) (jss_one (js_set (i := 10) sc__law_names.nd rfl (Or.inl rfl) (jcall o__law_pick (hr.mono (by decide)) (pd rfl rfl rfl rfl) (ja_cons (jv 0) (ja_cons (jv 3) ja_nil))))) jss_nil) (jss_cons (js_if (jt_cmp (op_eqD hu) o_eq (JE.jb (jv 4)) (JE.jb je_int) (nomark _)) (jss_one (js_set (i := 10) sc__law_names.nd rfl (Or.inl rfl) (je_join (JE.jb je_str) (JE.jb (JF.je (jf_lc (own := [("_law_k", 11)]) rfl sc__law_names.nd (ji_range1 (by rfl) B.range (ja_cons (je_op op_addA o_add (JE.jb je_int) (JE.jb (jcall o__law_draw (hr.mono (by decide)) (pd rfl rfl rfl rfl) (ja_cons (jv 0) (ja_cons je_int ja_nil))))) ja_nil)) (blkOk_by (N := ["_law_feed_here", "_law_many", "_law_signs", "_law_words_here", "_law_way", "_law_size", "_law_stem", "_law_lap", "_law_cut", "_law_found", "_law_name", "_law_k", "_law_sign"]) (sc := defScope (topS 31)) (by decide +kernel)) (by decide) (fun _ _ _ _ _ => (pg_name (i := 11) sc__law_names.nd rfl (Or.inl rfl))) (fun _ _ _ _ _ => jts_nil) (fun _ _ _ _ _ => (je_ix ix_seq o_ix (JE.jb (jv 2)) (JE.jb (jcall o__law_draw (hr.mono (by decide)) px (ja_cons (jv 0) (ja_cons je_int ja_nil)))) (fun _ _ => rfl))))))))) jss_nil) (jss_cons (js_if (jt_cmp (op_inB hv) o_in (JE.jb (jv 10)) (jw 9) (by rfl)) (jss_one (js_set (i := 10) sc__law_names.nd rfl (Or.inl rfl) (je_ix ix_seq o_ix (JE.jb (JF.je (jf_lc (own := [("_law_sign", 12)]) rfl sc__law_names.nd (ji_seq (jv 2)) (blkOk_by (N := ["_law_feed_here", "_law_many", "_law_signs", "_law_words_here", "_law_way", "_law_size", "_law_stem", "_law_lap", "_law_cut", "_law_found", "_law_name", "_law_k", "_law_sign"]) (sc := defScope (topS 31)) (by decide +kernel)) (by decide) (fun _ _ _ _ _ => (pg_name (i := 12) sc__law_names.nd rfl (Or.inl rfl))) (fun _ _ _ _ _ => (jts_one (jt_cmp (op_notInB hv) o_notIn (JE.jb (jv 12)) (jw 9) (by rfl)))) (fun _ _ _ _ _ => (jv 12))))) (JE.jb je_int) (fun _ _ => rfl)))) jss_nil) (jss_one (js_app (i := 9) rfl (Or.inr (Or.inl rfl)) (jv 10) (hb := fun ho ha => pe_bm PySem.F.plainAttrs_list PySem.F.slot_list_append PySem.F.type_list_append mt_append ho ha))))))))) (jss_one (js_frz (i := 9) (js_ret (jv 9))))))))))
theorem sc__law_spots : FnScope ["_law_feed_here", "_law_large", "_law_spots_here", "_law_first"] ["_law_feed_here"] (defScope (topS 32)) := ⟨rfl, rfl, rfl, by decide +kernel, rfl, by decide +kernel, by decide +kernel⟩
theorem d__law_spots (F : Fn0 K mg "_law_spots" (topS 32) ["_law_feed_here"]) (B : Blt mg) (o__law_draw : Own P w K mg base 1 "_law_draw" ["_law_feed_here", "_law_many"] PG.m_law_draw) : Own P w K mg base 2 "_law_spots" ["_law_feed_here"] PG.m_law_spots :=
  own_def F sc__law_spots fun fa cdv A outer s H G μ E hr => by
    have hu := hr.units
    have hu1 := Nat.lt_of_le_of_lt (Nat.add_le_add_left (by decide : 1 ≤ 65) _) (hv_of hr)
    have hv := hv_of hr
    exact (jss_cons (js_set (i := 1) sc__law_spots.nd rfl (Or.inl rfl) (je_op op_addA o_add (JE.jb (je_op op_mul o_mul (JE.jb (jcall o__law_draw (hr.mono (by decide)) (pd rfl rfl rfl rfl) (ja_cons (jv 0) (ja_cons je_int ja_nil)))) (JE.jb (je_op op_pow o_pow (JE.jb je_int) (JE.jb je_int))))) (JE.jb (jcall o__law_draw (hr.mono (by decide)) (pd rfl rfl rfl rfl) (ja_cons (jv 0) (ja_cons je_int ja_nil)))))) (jss_cons (js_set (i := 2) sc__law_spots.nd rfl (Or.inl rfl) (je_lst (ja_cons je_int (ja_cons je_int (ja_cons je_int (ja_cons (je_op op_addA o_add (JE.jb je_int) (JE.jb (jcall o__law_draw (hr.mono (by decide)) (pd rfl rfl rfl rfl) (ja_cons (jv 0) (ja_cons je_int ja_nil))))) (ja_cons je_int (ja_cons (jv 1) (ja_cons (jcall o__law_draw (hr.mono (by decide)) (pd rfl rfl rfl rfl) (ja_cons (jv 0) (ja_cons je_int ja_nil))) (ja_cons (je_op op_addA o_add (JE.jb je_int) (JE.jb (jcall o__law_draw (hr.mono (by decide)) (pd rfl rfl rfl rfl) (ja_cons (jv 0) (ja_cons je_int ja_nil))))) ja_nil)))))))))) (jss_cons (js_set (i := 3) sc__law_spots.nd rfl (Or.inl rfl) (jcall o__law_draw (hr.mono (by decide)) (pd rfl rfl rfl rfl) (ja_cons (jv 0) (ja_cons je_int ja_nil)))) (jss_one (js_ret (je_slice (JE.jb (je_op op_addA o_add (JE.jb (jv 2)) (JE.jb (jv 2)))) (jo_so (jv 3)) (jo_so (je_op op_addA o_add (JE.jb (je_op op_addA o_add (JE.jb (jv 3)) (JE.jb je_int))) (JE.jb (jcall o__law_draw (hr.mono (by decide)) (pd rfl rfl rfl rfl) (ja_cons (jv 0) (ja_cons je_int ja_nil))))))))))))
theorem sc__law_doings : FnScope ["_law_name", "_law_channels", "_law_letters", "_law_doings_here", "_law_way", "_law_sender", "_law_taker", "_law_form", "_law_letter"] ["_law_name", "_law_channels", "_law_letters"] (defScope (topS 33)) := ⟨rfl, rfl, rfl, by decide +kernel, rfl, by decide +kernel, by decide +kernel⟩
theorem d__law_doings (F : Fn0 K mg "_law_doings" (topS 33) ["_law_name", "_law_channels", "_law_letters"]) (B : Blt mg) : Own P w K mg base 1 "_law_doings" ["_law_name", "_law_channels", "_law_letters"] PG.m_law_doings :=
  own_def F sc__law_doings fun fa cdv A outer s H G μ E hr => by
    have hu := hr.units
    have hu1 := Nat.lt_of_le_of_lt (Nat.add_le_add_left (by decide : 1 ≤ 65) _) (hv_of hr)
    have hv := hv_of hr
    exact (jss_cons (js_own (i := 3) sc__law_doings.nd rfl (Or.inl rfl) (jf_lst (ja_cons (je_tup (ja_cons je_str (ja_cons (je_ix ix_seq o_ix (JE.jb (jv 2)) (JE.jb je_int) (fun _ _ => rfl)) ja_nil))) (ja_cons (je_tup (ja_cons je_str (ja_cons (je_ix ix_seq o_ix (JE.jb (jv 2)) (JE.jb je_int) (fun _ _ => rfl)) ja_nil))) ja_nil)))) (jss_cons (js_for (passes_of rfl) rfl (ji_seq (jv 1)) (pg_tup rfl (pgs_cons (pg_name (i := 4) sc__law_doings.nd rfl (Or.inr rfl)) (pgs_cons (pg_name (i := 5) sc__law_doings.nd rfl (Or.inr rfl)) (pgs_cons (pg_name (i := 6) sc__law_doings.nd rfl (Or.inl rfl)) (pgs_cons (pg_name (i := 7) sc__law_doings.nd rfl (Or.inl rfl)) pgs_nil))))) (fun _ _ => (jss_one (js_if (jt_cmp (op_inB hv) o_in (JE.jb (jv 0)) (JE.jb (je_tup (ja_cons (jv 5) (ja_cons (jv 6) ja_nil)))) (by rfl)) (jss_one (js_ext (i := 3) rfl (Or.inl rfl) (JF.je (jf_lc (own := [("_law_letter", 8)]) rfl sc__law_doings.nd (ji_seq (jv 2)) (blkOk_by (N := ["_law_name", "_law_channels", "_law_letters", "_law_doings_here", "_law_way", "_law_sender", "_law_taker", "_law_form", "_law_letter"]) (sc := defScope (topS 33)) (by decide +kernel)) (by decide) (fun _ _ _ _ _ => (pg_name (i := 8) sc__law_doings.nd rfl (Or.inl rfl))) (fun _ _ _ _ _ => jts_nil) (fun _ _ _ _ _ => (je_tup (ja_cons (je_if (jt_cmp (op_eqD hu) o_eq (JE.jb (jv 0)) (JE.jb (jv 5)) (nomark _)) je_str je_str) (ja_cons (jv 4) (ja_cons (jv 8) ja_nil))))))) (hb := fun ho ha => pe_bm PySem.F.plainAttrs_list PySem.F.slot_list_extend PySem.F.type_list_extend mt_extend ho ha))) jss_nil)))) (jss_one (js_frz (i := 3) (js_ret (jv 3))))))
theorem sc__law_party : FnScope ["_law_feed_here", "_law_name", "_law_doings_here", "_law_spots_here", "_law_arrows", "_law_lap", "_law_arrow", "_law_ends"] ["_law_feed_here", "_law_name", "_law_doings_here", "_law_spots_here"] (defScope (topS 34)) := ⟨rfl, rfl, rfl, by decide +kernel, rfl, by decide +kernel, by decide +kernel⟩
theorem d__law_party (F : Fn0 K mg "_law_party" (topS 34) ["_law_feed_here", "_law_name", "_law_doings_here", "_law_spots_here"]) (B : Blt mg) (o__law_draw : Own P w K mg base 1 "_law_draw" ["_law_feed_here", "_law_many"] PG.m_law_draw) (o__law_pick : Own P w K mg base 2 "_law_pick" ["_law_feed_here", "_law_things"] PG.m_law_pick) : Own P w K mg base 3 "_law_party" ["_law_feed_here", "_law_name", "_law_doings_here", "_law_spots_here"] PG.m_law_party :=
  own_def F sc__law_party fun fa cdv A outer s H G μ E hr => by
    have hu := hr.units
    have hu1 := Nat.lt_of_le_of_lt (Nat.add_le_add_left (by decide : 1 ≤ 65) _) (hv_of hr)
    have hv := hv_of hr
    exact (jss_cons (js_own (i := 4) sc__law_party.nd rfl (Or.inl rfl) (jf_lst ja_nil)) (jss_cons (js_for (passes_of rfl) rfl (ji_range1 (by rfl) B.range (ja_cons (jcall o__law_draw (hr.mono (by decide)) (pd rfl rfl rfl rfl) (ja_cons (jv 0) (ja_cons je_int ja_nil))) ja_nil)) (pg_name (i := 5) sc__law_party.nd rfl (Or.inl rfl)) (fun _ _ => (jss_cons (js_set (i := 6) sc__law_party.nd rfl (Or.inl rfl) (je_tup (ja_cons (jcall o__law_pick (hr.mono (by decide)) (pd rfl rfl rfl rfl) (ja_cons (jv 0) (ja_cons (jv 3) ja_nil))) (ja_cons (jcall o__law_pick (hr.mono (by decide)) (pd rfl rfl rfl rfl) (ja_cons (jv 0) (ja_cons (jv 2) ja_nil))) (ja_cons (jcall o__law_pick (hr.mono (by decide)) (pd rfl rfl rfl rfl) (ja_cons (jv 0) (ja_cons (jv 3) ja_nil))) ja_nil))))) (jss_one (js_if (jt_cmp (op_notInB hv) o_notIn (JE.jb (jv 6)) (jw 4) (by rfl)) (jss_one (js_app (i := 4) rfl (Or.inl rfl) (jv 6) (hb := fun ho ha => pe_bm PySem.F.plainAttrs_list PySem.F.slot_list_append PySem.F.type_list_append mt_append ho ha))) jss_nil))))) (jss_cons (js_set (i := 7) sc__law_party.nd rfl (Or.inl rfl) (je_sset rfl (by rfl) B.sorted (by rfl) B.set (JE.jb (JF.je (jf_lc (own := [("_law_lap", 5)]) rfl sc__law_party.nd (ji_range1 (by rfl) B.range (ja_cons (jcall o__law_draw (hr.mono (by decide)) (pd rfl rfl rfl rfl) (ja_cons (jv 0) (ja_cons je_int ja_nil))) ja_nil)) (blkOk_by (N := ["_law_feed_here", "_law_name", "_law_doings_here", "_law_spots_here", "_law_arrows", "_law_lap", "_law_arrow", "_law_ends"]) (sc := defScope (topS 34)) (by decide +kernel)) (by decide) (fun _ _ _ _ _ => (pg_name (i := 5) sc__law_party.nd rfl (Or.inl rfl))) (fun _ _ _ _ _ => jts_nil) (fun _ _ _ _ _ => (jcall o__law_pick (hr.mono (by decide)) px (ja_cons (jv 0) (ja_cons (jv 3) ja_nil))))))))) (jss_one (js_ret (je_tup (ja_cons (jv 1) (ja_cons (je_callTy call_tuple_of c_tup (by rfl) B.tuple (by decide +kernel) (JE.jb (jv 7))) (ja_cons (je_callTy call_tuple_of c_tup (by rfl) B.tuple (by decide +kernel) (jw 4)) ja_nil)))))))))
theorem sc__law_built : FnScope ["_law_feed_here", "_law_folk", "_law_ways", "_law_letters", "_law_spots_here", "_law_way", "_law_channels", "_law_sender", "_law_taker", "_law_parties", "_law_name"] ["_law_feed_here"] (defScope (topS 35)) := ⟨rfl, rfl, rfl, by decide +kernel, rfl, by decide +kernel, by decide +kernel⟩
theorem d__law_built (F : Fn0 K mg "_law_built" (topS 35) ["_law_feed_here"]) (B : Blt mg) (o__law_names : Own P w K mg base 3 "_law_names" ["_law_feed_here", "_law_many"] PG.m_law_names) (o__law_draw : Own P w K mg base 1 "_law_draw" ["_law_feed_here", "_law_many"] PG.m_law_draw) (o__law_spots : Own P w K mg base 2 "_law_spots" ["_law_feed_here"] PG.m_law_spots) (o__law_pick : Own P w K mg base 2 "_law_pick" ["_law_feed_here", "_law_things"] PG.m_law_pick) (o__law_party : Own P w K mg base 3 "_law_party" ["_law_feed_here", "_law_name", "_law_doings_here", "_law_spots_here"] PG.m_law_party) (o__law_doings : Own P w K mg base 1 "_law_doings" ["_law_name", "_law_channels", "_law_letters"] PG.m_law_doings) : Own P w K mg base 4 "_law_built" ["_law_feed_here"] PG.m_law_built :=
  own_def F sc__law_built fun fa cdv A outer s H G μ E hr => by
    have hu := hr.units
    have hu1 := Nat.lt_of_le_of_lt (Nat.add_le_add_left (by decide : 1 ≤ 65) _) (hv_of hr)
    have hv := hv_of hr
    exact (jss_cons (js_set (i := 1) sc__law_built.nd rfl (Or.inr rfl) (je_callB call_sortedA c_sorted (by rfl) B.sorted (by decide +kernel) (JE.jb (jcall o__law_names (hr.mono (by decide)) (pd rfl rfl rfl rfl) (ja_cons (jv 0) (ja_cons (je_ix ix_seq o_ix (JE.jb (je_lst (ja_cons je_int (ja_cons je_int (ja_cons je_int (ja_cons je_int (ja_cons je_int (ja_cons je_int (ja_cons je_int (ja_cons je_int ja_nil)))))))))) (JE.jb (jcall o__law_draw (hr.mono (by decide)) (pd rfl rfl rfl rfl) (ja_cons (jv 0) (ja_cons je_int ja_nil)))) (fun _ _ => rfl)) ja_nil)))))) (jss_cons (js_un (pt := (.tp [2, 3, 4])) (je_tup (ja_cons (jcall o__law_names (hr.mono (by decide)) (pd rfl rfl rfl rfl) (ja_cons (jv 0) (ja_cons je_int ja_nil))) (ja_cons (jcall o__law_names (hr.mono (by decide)) (pd rfl rfl rfl rfl) (ja_cons (jv 0) (ja_cons je_int ja_nil))) (ja_cons (jcall o__law_spots (hr.mono (by decide)) (pd rfl rfl rfl rfl) (ja_cons (jv 0) ja_nil)) ja_nil)))) (pg_tup rfl (pgs_cons (pg_name (i := 2) sc__law_built.nd rfl (Or.inl rfl)) (pgs_cons (pg_name (i := 3) sc__law_built.nd rfl (Or.inr rfl)) (pgs_cons (pg_name (i := 4) sc__law_built.nd rfl (Or.inr rfl)) pgs_nil))))) (jss_cons (js_if (jt_cmp (op_eqD hu) o_eq (JE.jb (jcall o__law_draw (hr.mono (by decide)) (pd rfl rfl rfl rfl) (ja_cons (jv 0) (ja_cons je_int ja_nil)))) (JE.jb je_int) (nomark _)) (jss_one (js_set (i := 2) sc__law_built.nd rfl (Or.inl rfl) (je_op op_addA o_add (JE.jb (jv 1)) (JE.jb (JF.je (jf_lc (own := [("_law_way", 5)]) rfl sc__law_built.nd (ji_seq (jv 2)) (blkOk_by (N := ["_law_feed_here", "_law_folk", "_law_ways", "_law_letters", "_law_spots_here", "_law_way", "_law_channels", "_law_sender", "_law_taker", "_law_parties", "_law_name"]) (sc := defScope (topS 35)) (by decide +kernel)) (by decide) (fun _ _ _ _ _ => (pg_name (i := 5) sc__law_built.nd rfl (Or.inl rfl))) (fun _ _ _ _ _ => (jts_one (jt_cmp (op_notInB hv) o_notIn (JE.jb (jv 5)) (JE.jb (jv 1)) (by rfl)))) (fun _ _ _ _ _ => (jv 5)))))))) jss_nil) (jss_cons (js_own (i := 6) sc__law_built.nd rfl (Or.inr rfl) (jf_lst ja_nil)) (jss_cons (js_for (passes_of rfl) rfl (ji_seq (je_callB call_sortedA c_sorted (by rfl) B.sorted (by decide +kernel) (JE.jb (je_slice (JE.jb (jv 2)) jo_no (jo_so (je_if (jt_cmp op_gtO o_gt (JE.jb (je_callB call_len c_len (by rfl) B.len (by decide +kernel) (JE.jb (jv 1)))) (JE.jb je_int) (nomark _)) (je_ix ix_seq o_ix (JE.jb (je_lst (ja_cons je_int (ja_cons je_int (ja_cons je_int (ja_cons je_int (ja_cons je_int (ja_cons je_int ja_nil)))))))) (JE.jb (jcall o__law_draw (hr.mono (by decide)) (pd rfl rfl rfl rfl) (ja_cons (jv 0) (ja_cons je_int ja_nil)))) (fun _ _ => rfl)) je_int)))))) (pg_name (i := 5) sc__law_built.nd rfl (Or.inl rfl)) (fun _ _ => (jss_cons (js_set (i := 7) sc__law_built.nd rfl (Or.inl rfl) (jcall o__law_draw (hr.mono (by decide)) (pd rfl rfl rfl rfl) (ja_cons (jv 0) (ja_cons (je_callB call_len c_len (by rfl) B.len (by decide +kernel) (JE.jb (jv 1))) ja_nil)))) (jss_cons (js_set (i := 8) sc__law_built.nd rfl (Or.inl rfl) (je_op op_mod o_mod (JE.jb (je_callTy call_intA c_int (by rfl) B.int (by decide +kernel) (JE.jb (je_op op_addA o_add (JE.jb (je_op op_addA o_add (JE.jb (jv 7)) (JE.jb je_int))) (JE.jb (jcall o__law_draw (hr.mono (by decide)) (pd rfl rfl rfl rfl) (ja_cons (jv 0) (ja_cons (je_op op_sub o_sub (JE.jb (je_callB call_len c_len (by rfl) B.len (by decide +kernel) (JE.jb (jv 1)))) (JE.jb je_int)) ja_nil)))))))) (JE.jb (je_callB call_len c_len (by rfl) B.len (by decide +kernel) (JE.jb (jv 1)))))) (jss_one (js_app (i := 6) rfl (Or.inr (Or.inl rfl)) (je_tup (ja_cons (jv 5) (ja_cons (je_ix ix_seq o_ix (JE.jb (jv 1)) (JE.jb (jv 7)) (fun _ _ => rfl)) (ja_cons (je_ix ix_seq o_ix (JE.jb (jv 1)) (JE.jb (jv 8)) (fun _ _ => rfl)) (ja_cons (jcall o__law_pick (hr.mono (by decide)) (pd rfl rfl rfl rfl) (ja_cons (jv 0) (ja_cons (je_lst (ja_cons je_str (ja_cons je_str (ja_cons je_str ja_nil)))) ja_nil))) ja_nil))))) (hb := fun ho ha => pe_bm PySem.F.plainAttrs_list PySem.F.slot_list_append PySem.F.type_list_append mt_append ho ha))))))) (jss_cons (js_frz (i := 6) (js_setLc (i := 9) (own := [("_law_name", 10)]) rfl sc__law_built.nd rfl rfl (sw_true rfl rfl rfl (by decide +kernel)) (ji_seq (jv 1)) (blkOk_by (N := ["_law_feed_here", "_law_folk", "_law_ways", "_law_letters", "_law_spots_here", "_law_way", "_law_channels", "_law_sender", "_law_taker", "_law_parties", "_law_name"]) (sc := defScope (topS 35)) (by decide +kernel)) (by decide) (fun _ _ _ _ _ => (pg_name (i := 10) sc__law_built.nd rfl (Or.inl rfl))) (fun _ _ _ _ _ => jts_nil) (fun _ _ _ _ _ => (jcall o__law_party (hr.mono (by decide)) px (ja_cons (jv 0) (ja_cons (jv 10) (ja_cons (jcall o__law_doings (hr.mono (by decide)) px (ja_cons (jv 10) (ja_cons (jv 6) (ja_cons (jv 3) ja_nil)))) (ja_cons (jv 4) ja_nil)))))))) (jss_one (js_ret (je_tup (ja_cons (je_callTy call_tuple_of c_tup (by rfl) B.tuple (by decide +kernel) (JE.jb (jv 9))) (ja_cons (je_callTy call_tuple_of c_tup (by rfl) B.tuple (by decide +kernel) (jw 6)) ja_nil)))))))))))
theorem sc__law_words : FnScope ["_law_doing"] ["_law_doing"] (defScope (topS 36)) := ⟨rfl, rfl, rfl, by decide +kernel, rfl, by decide +kernel, by decide +kernel⟩
def s__law_words : En → M (Fl × En) := sRet (eM1 joinM (eC (.str " ")) (eVar 0))
def m__law_words : List D → M D := runB 1 s__law_words
theorem d__law_words (F : Fn0 K mg "_law_words" (topS 36) ["_law_doing"]) (B : Blt mg) : Own P w K mg base 1 "_law_words" ["_law_doing"] m__law_words :=
  own_def F sc__law_words fun fa cdv A outer s H G μ E hr => by
    have hu := hr.units
    have hu1 := Nat.lt_of_le_of_lt (Nat.add_le_add_left (by decide : 1 ≤ 65) _) (hv_of hr)
    have hv := hv_of hr
    exact (jss_one (js_ret (je_join (JE.jb je_str) (JE.jb (jv 0)))))
theorem sc__law_lines : FnScope ["_law_parties", "_law_channels", "_law_lines_here", "_law_channel", "_law_name", "_law_ends", "_law_arrows", "_law_end", "_law_place", "_law_doing", "_law_later", "_law_words_here"] ["_law_parties", "_law_channels"] (defScope (topS 37)) := ⟨rfl, rfl, rfl, by decide +kernel, rfl, by decide +kernel, by decide +kernel⟩
def s__law_lines : En → M (Fl × En) := sSeq (sOwn 2 (eLc (iSeq (eVar 1)) (.nm 3) [3] (tTrue) (e2 addM (eC (.str "channel ")) (eM1 joinM (eC (.str " ")) (eVar 3))))) (sSeq (sFor (iSeq (eVar 0)) (.tp [4, 5, 6]) (sSeq (sApp 2 (e2 addM (e2 addM (e2 addM (eC (.str "party ")) (eVar 4)) (eC (.str " "))) (eIf (tBl (e2 neM (eVar 5) (eTup (aNil)))) (eM1 joinM (eC (.str ",")) (eL (eLc (iSeq (eVar 5)) (.nm 7) [7] (tTrue) (e1 strM (eVar 7))))) (eC (.str "-"))))) (sFor (iSeq (eVar 6)) (.tp [8, 9, 10]) (sSeq (sSet 11 (eLst (aCons (eC (.str "arrow")) (aCons (eVar 4) (aCons (e1 strM (eVar 8)) (aCons (eCall 1 m__law_words (aCons (eVar 9) (aNil))) (aCons (e1 strM (eVar 10)) (aNil)))))))) (sApp 2 (eM1 joinM (eC (.str " ")) (eVar 11))))))) (sFrz 2 (sRet (eVar 2))))
def m__law_lines : List D → M D := runB 12 s__law_lines
theorem d__law_lines (F : Fn0 K mg "_law_lines" (topS 37) ["_law_parties", "_law_channels"]) (B : Blt mg) (o__law_words : Own P w K mg base 1 "_law_words" ["_law_doing"] m__law_words) : Own P w K mg base 2 "_law_lines" ["_law_parties", "_law_channels"] m__law_lines :=
  own_def F sc__law_lines fun fa cdv A outer s H G μ E hr => by
    have hu := hr.units
    have hu1 := Nat.lt_of_le_of_lt (Nat.add_le_add_left (by decide : 1 ≤ 65) _) (hv_of hr)
    have hv := hv_of hr
    exact (jss_cons (js_ownLc (i := 2) (own := [("_law_channel", 3)]) rfl sc__law_lines.nd rfl rfl (sw_true rfl rfl rfl (by decide +kernel)) (ji_seq (jv 1)) (blkOk_by (N := ["_law_parties", "_law_channels", "_law_lines_here", "_law_channel", "_law_name", "_law_ends", "_law_arrows", "_law_end", "_law_place", "_law_doing", "_law_later", "_law_words_here"]) (sc := defScope (topS 37)) (by decide +kernel)) (by decide) (fun _ _ _ _ _ => (pg_name (i := 3) sc__law_lines.nd rfl (Or.inl rfl))) (fun _ _ _ _ _ => jts_nil) (fun _ _ _ _ _ => (je_op op_addA o_add (JE.jb je_str) (JE.jb (je_join (JE.jb je_str) (JE.jb (jv 3))))))) (jss_cons (js_for (passes_of rfl) rfl (ji_seq (jv 0)) (pg_tup rfl (pgs_cons (pg_name (i := 4) sc__law_lines.nd rfl (Or.inl rfl)) (pgs_cons (pg_name (i := 5) sc__law_lines.nd rfl (Or.inl rfl)) (pgs_cons (pg_name (i := 6) sc__law_lines.nd rfl (Or.inl rfl)) pgs_nil)))) (fun _ _ => (jss_cons (js_app (i := 2) rfl (Or.inl rfl) (je_op op_addA o_add (JE.jb (je_op op_addA o_add (JE.jb (je_op op_addA o_add (JE.jb je_str) (JE.jb (jv 4)))) (JE.jb je_str))) (JE.jb (je_if (jt_cmp (op_neD hu) o_ne (JE.jb (jv 5)) (JE.jb (je_tup ja_nil)) (nomark _)) (je_join (JE.jb je_str) (JE.jb (JF.je (jf_lc (own := [("_law_end", 7)]) rfl sc__law_lines.nd (ji_seq (jv 5)) (blkOk_by (N := ["_law_parties", "_law_channels", "_law_lines_here", "_law_channel", "_law_name", "_law_ends", "_law_arrows", "_law_end", "_law_place", "_law_doing", "_law_later", "_law_words_here"]) (sc := defScope (topS 37)) (by decide +kernel)) (by decide) (fun _ _ _ _ _ => (pg_name (i := 7) sc__law_lines.nd rfl (Or.inl rfl))) (fun _ _ _ _ _ => jts_nil) (fun _ _ _ _ _ => (je_callTy call_str_int c_str (by rfl) B.str (by decide +kernel) (JE.jb (jv 7)))))))) je_str))) (hb := fun ho ha => pe_bm PySem.F.plainAttrs_list PySem.F.slot_list_append PySem.F.type_list_append mt_append ho ha)) (jss_one (js_for (passes_of rfl) rfl (ji_seq (jv 6)) (pg_tup rfl (pgs_cons (pg_name (i := 8) sc__law_lines.nd rfl (Or.inl rfl)) (pgs_cons (pg_name (i := 9) sc__law_lines.nd rfl (Or.inl rfl)) (pgs_cons (pg_name (i := 10) sc__law_lines.nd rfl (Or.inl rfl)) pgs_nil)))) (fun _ _ => (jss_cons (js_set (i := 11) sc__law_lines.nd rfl (Or.inl rfl) (je_lst (ja_cons je_str (ja_cons (jv 4) (ja_cons (je_callTy call_str_int c_str (by rfl) B.str (by decide +kernel) (JE.jb (jv 8))) (ja_cons (jcall o__law_words (hr.mono (by decide)) (pd rfl rfl rfl rfl) (ja_cons (jv 9) ja_nil)) (ja_cons (je_callTy call_str_int c_str (by rfl) B.str (by decide +kernel) (JE.jb (jv 10))) ja_nil))))))) (jss_one (js_app (i := 2) rfl (Or.inl rfl) (je_join (JE.jb je_str) (JE.jb (jv 11))) (hb := fun ho ha => pe_bm PySem.F.plainAttrs_list PySem.F.slot_list_append PySem.F.type_list_append mt_append ho ha)))))))))) (jss_one (js_frz (i := 2) (js_ret (jv 2))))))
theorem sc__law_loose : FnScope ["_law_feed_here", "_law_program", "_law_parties", "_law_channels", "_law_k", "_law_j", "_law_name", "_law_ends", "_law_arrows", "_law_doing", "_law_more", "_law_way", "_law_sender", "_law_taker", "_law_form"] ["_law_feed_here", "_law_program"] (defScope (topS 38)) := ⟨rfl, rfl, rfl, by decide +kernel, rfl, by decide +kernel, by decide +kernel⟩
def s__law_loose : En → M (Fl × En) := sSeq (sUn (.tp [2, 3]) (eVar 1)) (sSeq (sPar 4 5 (eCall 2 PG.m_law_draw (aCons (eVar 0) (aCons (e2 addM (e1 lenM (eVar 2)) (eC (.int 1))) (aNil)))) (eCall 2 PG.m_law_draw (aCons (eVar 0) (aCons (e2 addM (e1 lenM (eVar 3)) (eC (.int 1))) (aNil))))) (sSeq (sIf (tAn (tBl (e2 eqM (eCall 2 PG.m_law_draw (aCons (eVar 0) (aCons (eC (.int 2)) (aNil)))) (eC (.int 0)))) (tBl (e2 neM (eVar 2) (eTup (aNil))))) (sSeq (sUn (.tp [6, 7, 8]) (eCall 2 PG.m_law_pick (aCons (eVar 0) (aCons (eVar 2) (aNil))))) (sSeq (sSet 9 (eTup (aCons (eCall 2 PG.m_law_pick (aCons (eVar 0) (aCons (eLst (aCons (eC (.str "put")) (aCons (eC (.str "take")) (aNil)))) (aNil)))) (aCons (eC (.str "nowhere")) (aCons (eC (.str "x")) (aNil)))))) (sSeq (sSet 10 (eTup (aCons (eCall 2 PG.m_law_draw (aCons (eVar 0) (aCons (eC (.int 12)) (aNil)))) (aCons (eVar 9) (aCons (eCall 2 PG.m_law_draw (aCons (eVar 0) (aCons (eC (.int 12)) (aNil)))) (aNil)))))) (sSet 2 (e2 addM (eSl (eVar 2) (oSo (eC (.int 1))) oNo) (eTup (aCons (eTup (aCons (eVar 6) (aCons (eVar 7) (aCons (e2 addM (e2 addM (eVar 8) (eTup (aCons (eVar 10) (aNil)))) (eSl (eVar 8) oNo (oSo (eC (.int 1))))) (aNil))))) (aNil)))))))) (sNil)) (sSeq (sIf (tAn (tBl (e2 eqM (eCall 2 PG.m_law_draw (aCons (eVar 0) (aCons (eC (.int 2)) (aNil)))) (eC (.int 0)))) (tBl (e2 neM (eVar 3) (eTup (aNil))))) (sSeq (sUn (.tp [11, 12, 13, 14]) (eCall 2 PG.m_law_pick (aCons (eVar 0) (aCons (eVar 3) (aNil))))) (sSet 3 (e2 addM (eSl (eVar 3) (oSo (eC (.int 1))) oNo) (eTup (aCons (eTup (aCons (eVar 11) (aCons (eVar 12) (aCons (eVar 12) (aCons (eVar 14) (aNil)))))) (aNil)))))) (sNil)) (sRet (eTup (aCons (e2 addM (eSl (eVar 2) (oSo (eVar 4)) oNo) (eSl (eVar 2) oNo (oSo (eVar 4)))) (aCons (e2 addM (eSl (eVar 3) (oSo (eVar 5)) oNo) (eSl (eVar 3) oNo (oSo (eVar 5)))) (aNil))))))))
def m__law_loose : List D → M D := runB 15 s__law_loose
theorem d__law_loose (F : Fn0 K mg "_law_loose" (topS 38) ["_law_feed_here", "_law_program"]) (B : Blt mg) (o__law_draw : Own P w K mg base 1 "_law_draw" ["_law_feed_here", "_law_many"] PG.m_law_draw) (o__law_pick : Own P w K mg base 2 "_law_pick" ["_law_feed_here", "_law_things"] PG.m_law_pick) : Own P w K mg base 3 "_law_loose" ["_law_feed_here", "_law_program"] m__law_loose :=
  own_def F sc__law_loose fun fa cdv A outer s H G μ E hr => by
    have hu := hr.units
    have hu1 := Nat.lt_of_le_of_lt (Nat.add_le_add_left (by decide : 1 ≤ 65) _) (hv_of hr)
    have hv := hv_of hr
    exact (jss_cons (js_un (pt := (.tp [2, 3])) (jv 1) (pg_tup rfl (pgs_cons (pg_name (i := 2) sc__law_loose.nd rfl (Or.inl rfl)) (pgs_cons (pg_name (i := 3) sc__law_loose.nd rfl (Or.inl rfl)) pgs_nil)))) (jss_cons (js_par (i := 4) (j := 5) rfl sc__law_loose.nd rfl rfl (jcall o__law_draw (hr.mono (by decide)) (pd rfl rfl rfl rfl) (ja_cons (jv 0) (ja_cons (je_op op_addA o_add (JE.jb (je_callB call_len c_len (by rfl) B.len (by decide +kernel) (JE.jb (jv 2)))) (JE.jb je_int)) ja_nil))) (jcall o__law_draw (hr.mono (by decide)) (pd rfl rfl rfl rfl) (ja_cons (jv 0) (ja_cons (je_op op_addA o_add (JE.jb (je_callB call_len c_len (by rfl) B.len (by decide +kernel) (JE.jb (jv 3)))) (JE.jb je_int)) ja_nil)))) (jss_cons (js_if (JW.jt (jw_and (jt_cmp (op_eqD hu) o_eq (JE.jb (jcall o__law_draw (hr.mono (by decide)) (pd rfl rfl rfl rfl) (ja_cons (jv 0) (ja_cons je_int ja_nil)))) (JE.jb je_int) (nomark _)) (jw_and1 (jt_cmp (op_neD hu) o_ne (JE.jb (jv 2)) (JE.jb (je_tup ja_nil)) (nomark _))))) (jss_cons (js_un (pt := (.tp [6, 7, 8])) (jcall o__law_pick (hr.mono (by decide)) (pd rfl rfl rfl rfl) (ja_cons (jv 0) (ja_cons (jv 2) ja_nil))) (pg_tup rfl (pgs_cons (pg_name (i := 6) sc__law_loose.nd rfl (Or.inl rfl)) (pgs_cons (pg_name (i := 7) sc__law_loose.nd rfl (Or.inl rfl)) (pgs_cons (pg_name (i := 8) sc__law_loose.nd rfl (Or.inl rfl)) pgs_nil))))) (jss_cons (js_set (i := 9) sc__law_loose.nd rfl (Or.inl rfl) (je_tup (ja_cons (jcall o__law_pick (hr.mono (by decide)) (pd rfl rfl rfl rfl) (ja_cons (jv 0) (ja_cons (je_lst (ja_cons je_str (ja_cons je_str ja_nil))) ja_nil))) (ja_cons je_str (ja_cons je_str ja_nil))))) (jss_cons (js_set (i := 10) sc__law_loose.nd rfl (Or.inl rfl) (je_tup (ja_cons (jcall o__law_draw (hr.mono (by decide)) (pd rfl rfl rfl rfl) (ja_cons (jv 0) (ja_cons je_int ja_nil))) (ja_cons (jv 9) (ja_cons (jcall o__law_draw (hr.mono (by decide)) (pd rfl rfl rfl rfl) (ja_cons (jv 0) (ja_cons je_int ja_nil))) ja_nil))))) (jss_one (js_set (i := 2) sc__law_loose.nd rfl (Or.inl rfl) (je_op op_addA o_add (JE.jb (je_slice (JE.jb (jv 2)) (jo_so je_int) jo_no)) (JE.jb (je_tup (ja_cons (je_tup (ja_cons (jv 6) (ja_cons (jv 7) (ja_cons (je_op op_addA o_add (JE.jb (je_op op_addA o_add (JE.jb (jv 8)) (JE.jb (je_tup (ja_cons (jv 10) ja_nil))))) (JE.jb (je_slice (JE.jb (jv 8)) jo_no (jo_so je_int)))) ja_nil)))) ja_nil))))))))) jss_nil) (jss_cons (js_if (JW.jt (jw_and (jt_cmp (op_eqD hu) o_eq (JE.jb (jcall o__law_draw (hr.mono (by decide)) (pd rfl rfl rfl rfl) (ja_cons (jv 0) (ja_cons je_int ja_nil)))) (JE.jb je_int) (nomark _)) (jw_and1 (jt_cmp (op_neD hu) o_ne (JE.jb (jv 3)) (JE.jb (je_tup ja_nil)) (nomark _))))) (jss_cons (js_un (pt := (.tp [11, 12, 13, 14])) (jcall o__law_pick (hr.mono (by decide)) (pd rfl rfl rfl rfl) (ja_cons (jv 0) (ja_cons (jv 3) ja_nil))) (pg_tup rfl (pgs_cons (pg_name (i := 11) sc__law_loose.nd rfl (Or.inl rfl)) (pgs_cons (pg_name (i := 12) sc__law_loose.nd rfl (Or.inl rfl)) (pgs_cons (pg_name (i := 13) sc__law_loose.nd rfl (Or.inl rfl)) (pgs_cons (pg_name (i := 14) sc__law_loose.nd rfl (Or.inl rfl)) pgs_nil)))))) (jss_one (js_set (i := 3) sc__law_loose.nd rfl (Or.inl rfl) (je_op op_addA o_add (JE.jb (je_slice (JE.jb (jv 3)) (jo_so je_int) jo_no)) (JE.jb (je_tup (ja_cons (je_tup (ja_cons (jv 11) (ja_cons (jv 12) (ja_cons (jv 12) (ja_cons (jv 14) ja_nil))))) ja_nil))))))) jss_nil) (jss_one (js_ret (je_tup (ja_cons (je_op op_addA o_add (JE.jb (je_slice (JE.jb (jv 2)) (jo_so (jv 4)) jo_no)) (JE.jb (je_slice (JE.jb (jv 2)) jo_no (jo_so (jv 4))))) (ja_cons (je_op op_addA o_add (JE.jb (je_slice (JE.jb (jv 3)) (jo_so (jv 5)) jo_no)) (JE.jb (je_slice (JE.jb (jv 3)) jo_no (jo_so (jv 5))))) ja_nil)))))))))
theorem sc__law_same : FnScope ["_law_told", "_law_due", "_law_k"] ["_law_told", "_law_due"] (defScope (topS 39)) := ⟨rfl, rfl, rfl, by decide +kernel, rfl, by decide +kernel, by decide +kernel⟩
def s__law_same (m_rec : List D → M D) : En → M (Fl × En) := sSeq (sIf (tBl (e1 (isiM "tuple") (eVar 1))) (sSeq (sIf (tOor (tNt (tBl (e1 (isiM "tuple") (eVar 0)))) (tBl (e2 neM (e1 lenM (eVar 0)) (e1 lenM (eVar 1))))) (sRet (eC (.bl false))) (sNil)) (sRet (e2 eqM (eL (eLc (iRange1 (aCons (e1 lenM (eVar 1)) (aNil))) (.nm 2) [2] (tNt (tBl (eCall 2 m_rec (aCons (e2 ixM (eVar 0) (eVar 2)) (aCons (e2 ixM (eVar 1) (eVar 2)) (aNil)))))) (eVar 2))) (eLst (aNil))))) (sNil)) (sSeq (sIf (tBl (e1 isNM (eVar 1))) (sRet (e1 isNM (eVar 0))) (sNil)) (sSeq (sIf (tBl (e1 (isiM "bool") (eVar 1))) (sRet (vAnd (e1 (isiM "bool") (eVar 0)) (e2 eqM (eVar 0) (eVar 1)))) (sNil)) (sSeq (sIf (tBl (e1 (isiM "str") (eVar 1))) (sRet (vAnd (e1 (isiM "str") (eVar 0)) (e2 eqM (eVar 0) (eVar 1)))) (sNil)) (sRet (vAnd (e1 (isiM "int") (eVar 0)) (vAnd (vNot (e1 (isiM "bool") (eVar 0))) (e2 eqM (eVar 0) (eVar 1))))))))
def m__law_same : Nat → List D → M D
  | 0 => fun _ => M.bad
  | n + 1 => runB 3 (s__law_same (m__law_same n))
theorem d__law_same (F : Fn0 K mg "_law_same" (topS 39) ["_law_told", "_law_due"]) (B : Blt mg) : ∀ n, Own P w K mg base (0 + n) "_law_same" ["_law_told", "_law_due"] (m__law_same n)
  | 0 => own_zero _ F
  | n + 1 => by
    have o__law_same := d__law_same F B n
    exact own_def F sc__law_same fun fa cdv A outer s H G μ E hr => by
      have hu := hr.units
      have hu1 := Nat.lt_of_le_of_lt (Nat.add_le_add_left (by decide : 1 ≤ 65) _) (hv_of hr)
      have hv := hv_of hr
      exact (jss_cons (js_if (jt_val (je_isi (by rfl) B.isinstance (by rfl) B.tuple (by decide +kernel) (jv 1))) (jss_cons (js_if (JW.jt (jw_or (jt_not (jt_val (je_isi (by rfl) B.isinstance (by rfl) B.tuple (by decide +kernel) (jv 0)))) (jw_or1 (jt_cmp (op_neD hu) o_ne (JE.jb (je_callB call_len c_len (by rfl) B.len (by decide +kernel) (JE.jb (jv 0)))) (JE.jb (je_callB call_len c_len (by rfl) B.len (by decide +kernel) (JE.jb (jv 1)))) (nomark _))))) (jss_one (js_ret je_bl)) jss_nil) (jss_one (js_ret (je_cmp (op_eqD hu) o_eq (JE.jb (JF.je (jf_lc (own := [("_law_k", 2)]) rfl sc__law_same.nd (ji_range1 (by rfl) B.range (ja_cons (je_callB call_len c_len (by rfl) B.len (by decide +kernel) (JE.jb (jv 1))) ja_nil)) (blkOk_by (N := ["_law_told", "_law_due", "_law_k"]) (sc := defScope (topS 39)) (by decide +kernel)) (by decide) (fun _ _ _ _ _ => (pg_name (i := 2) sc__law_same.nd rfl (Or.inl rfl))) (fun _ _ _ _ _ => (jts_one (jt_not (jt_val (jcall o__law_same hr px (ja_cons (je_ix ix_seq o_ix (JE.jb (jv 0)) (JE.jb (jv 2)) (fun _ _ => rfl)) (ja_cons (je_ix ix_seq o_ix (JE.jb (jv 1)) (JE.jb (jv 2)) (fun _ _ => rfl)) ja_nil))))))) (fun _ _ _ _ _ => (jv 2))))) (JE.jb (je_lst ja_nil)) (nomark _))))) jss_nil) (jss_cons (js_if (jt_isN (jv 1)) (jss_one (js_ret (je_isN (jv 0)))) jss_nil) (jss_cons (js_if (jt_val (je_isi (by rfl) B.isinstance (by rfl) B.bool (by decide +kernel) (jv 1))) (jss_one (js_ret (je_and (je_isi (by rfl) B.isinstance (by rfl) B.bool (by decide +kernel) (jv 0)) (je_one (je_cmp (op_eqD hu) o_eq (JE.jb (jv 0)) (JE.jb (jv 1)) (nomark _)))))) jss_nil) (jss_cons (js_if (jt_val (je_isi (by rfl) B.isinstance (by rfl) B.str (by decide +kernel) (jv 1))) (jss_one (js_ret (je_and (je_isi (by rfl) B.isinstance (by rfl) B.str (by decide +kernel) (jv 0)) (je_one (je_cmp (op_eqD hu) o_eq (JE.jb (jv 0)) (JE.jb (jv 1)) (nomark _)))))) jss_nil) (jss_one (js_ret (je_and (je_isi (by rfl) B.isinstance (by rfl) B.int (by decide +kernel) (jv 0)) (je_and (je_not (je_isi (by rfl) B.isinstance (by rfl) B.bool (by decide +kernel) (jv 0))) (je_one (je_cmp (op_eqD hu) o_eq (JE.jb (jv 0)) (JE.jb (jv 1)) (nomark _)))))))))))
theorem sc__law_doings_of : FnScope ["_law_pair", "_law_doings_here", "_law_name", "_law_ends", "_law_arrows", "_law_arrow"] ["_law_pair"] (defScope (topS 42)) := ⟨rfl, rfl, rfl, by decide +kernel, rfl, by decide +kernel, by decide +kernel⟩
def s__law_doings_of : En → M (Fl × En) := sSeq (sOwn 1 (fLst (aNil))) (sSeq (sFor (iSeq (e2 ixM (eVar 0) (eC (.int 0)))) (.tp [2, 3, 4]) (sExt 1 (eL (eLc (iSeq (eVar 4)) (.nm 5) [5] (tTrue) (e2 ixM (eVar 5) (eC (.int 1))))))) (sFrz 1 (sRet (eVar 1))))
def m__law_doings_of : List D → M D := runB 6 s__law_doings_of
theorem d__law_doings_of (F : Fn0 K mg "_law_doings_of" (topS 42) ["_law_pair"]) (B : Blt mg) : Own P w K mg base 1 "_law_doings_of" ["_law_pair"] m__law_doings_of :=
  own_def F sc__law_doings_of fun fa cdv A outer s H G μ E hr => by
    have hu := hr.units
    have hu1 := Nat.lt_of_le_of_lt (Nat.add_le_add_left (by decide : 1 ≤ 65) _) (hv_of hr)
    have hv := hv_of hr
    exact (jss_cons (js_own (i := 1) sc__law_doings_of.nd rfl (Or.inl rfl) (jf_lst ja_nil)) (jss_cons (js_for (passes_of rfl) rfl (ji_seq (je_ix ix_seq o_ix (JE.jb (jv 0)) (JE.jb je_int) (fun _ _ => rfl))) (pg_tup rfl (pgs_cons (pg_name (i := 2) sc__law_doings_of.nd rfl (Or.inl rfl)) (pgs_cons (pg_name (i := 3) sc__law_doings_of.nd rfl (Or.inl rfl)) (pgs_cons (pg_name (i := 4) sc__law_doings_of.nd rfl (Or.inl rfl)) pgs_nil)))) (fun _ _ => (jss_one (js_ext (i := 1) rfl (Or.inl rfl) (JF.je (jf_lc (own := [("_law_arrow", 5)]) rfl sc__law_doings_of.nd (ji_seq (jv 4)) (blkOk_by (N := ["_law_pair", "_law_doings_here", "_law_name", "_law_ends", "_law_arrows", "_law_arrow"]) (sc := defScope (topS 42)) (by decide +kernel)) (by decide) (fun _ _ _ _ _ => (pg_name (i := 5) sc__law_doings_of.nd rfl (Or.inl rfl))) (fun _ _ _ _ _ => jts_nil) (fun _ _ _ _ _ => (je_ix ix_seq o_ix (JE.jb (jv 5)) (JE.jb je_int) (fun _ _ => rfl))))) (hb := fun ho ha => pe_bm PySem.F.plainAttrs_list PySem.F.slot_list_extend PySem.F.type_list_extend mt_extend ho ha))))) (jss_one (js_frz (i := 1) (js_ret (jv 1))))))
theorem sc_program_text : FnScope ["program", "parties", "channels", "lines", "channel", "name", "ends", "arrows", "start", "doing", "end"] ["program"] (defScope (topS 2)) := ⟨rfl, rfl, rfl, by decide +kernel, rfl, by decide +kernel, by decide +kernel⟩
def s_program_text : En → M (Fl × En) := sSeq (sUn (.tp [1, 2]) (eVar 0)) (sSeq (sOwn 3 (eLc (iSeq (eVar 2)) (.nm 4) [4] (tTrue) (e2 addM (eC (.str "channel ")) (eM1 joinM (eC (.str " ")) (eVar 4))))) (sSeq (sFor (iSeq (eVar 1)) (.tp [5, 6, 7]) (sSeq (sApp 3 (eFj ((eC (.str "party ")) :: (e1 fmtM (eVar 5)) :: (eC (.str " ")) :: (e1 fmtM (eCall 1 m__ends_text (aCons (eVar 6) (aNil)))) :: []))) (sFor (iSeq (eVar 7)) (.tp [8, 9, 10]) (sApp 3 (eFj ((eC (.str "arrow ")) :: (e1 fmtM (eVar 5)) :: (eC (.str " ")) :: (e1 fmtM (eVar 8)) :: (eC (.str " ")) :: (e1 fmtM (eCall 1 m_doing_text (aCons (eVar 9) (aNil)))) :: (eC (.str " ")) :: (e1 fmtM (eVar 10)) :: [])))))) (sRet (eM1 joinM (eC (.str "\n")) (eLook 3)))))
def m_program_text : List D → M D := runB 11 s_program_text
theorem d_program_text (F : Fn0 K mg "program_text" (topS 2) ["program"]) (B : Blt mg) (o__ends_text : Own P w K mg base 1 "_ends_text" ["ends"] m__ends_text) (o_doing_text : Own P w K mg base 1 "doing_text" ["doing"] m_doing_text) : Own P w K mg base 2 "program_text" ["program"] m_program_text :=
  own_def F sc_program_text fun fa cdv A outer s H G μ E hr => by
    have hu := hr.units
    have hu1 := Nat.lt_of_le_of_lt (Nat.add_le_add_left (by decide : 1 ≤ 65) _) (hv_of hr)
    have hv := hv_of hr
    exact (jss_cons (js_un (pt := (.tp [1, 2])) (jv 0) (pg_tup rfl (pgs_cons (pg_name (i := 1) sc_program_text.nd rfl (Or.inl rfl)) (pgs_cons (pg_name (i := 2) sc_program_text.nd rfl (Or.inl rfl)) pgs_nil)))) (jss_cons (js_ownLc (i := 3) (own := [("channel", 4)]) rfl sc_program_text.nd rfl rfl (sw_true rfl rfl rfl (by decide +kernel)) (ji_seq (jv 2)) (blkOk_by (N := ["program", "parties", "channels", "lines", "channel", "name", "ends", "arrows", "start", "doing", "end"]) (sc := defScope (topS 2)) (by decide +kernel)) (by decide) (fun _ _ _ _ _ => (pg_name (i := 4) sc_program_text.nd rfl (Or.inl rfl))) (fun _ _ _ _ _ => jts_nil) (fun _ _ _ _ _ => (je_op op_addA o_add (JE.jb je_str) (JE.jb (je_join (JE.jb je_str) (JE.jb (jv 4))))))) (jss_cons (js_for (passes_of rfl) rfl (ji_seq (jv 1)) (pg_tup rfl (pgs_cons (pg_name (i := 5) sc_program_text.nd rfl (Or.inl rfl)) (pgs_cons (pg_name (i := 6) sc_program_text.nd rfl (Or.inl rfl)) (pgs_cons (pg_name (i := 7) sc_program_text.nd rfl (Or.inl rfl)) pgs_nil)))) (fun _ _ => (jss_cons (js_app (i := 3) rfl (Or.inl rfl) (je_fj (.cons je_str (.cons (je_fmt (jv 5)) (.cons je_str (.cons (je_fmt (jcall o__ends_text (hr.mono (by decide)) (pd rfl rfl rfl rfl) (ja_cons (jv 6) ja_nil))) .nil))))) (hb := fun ho ha => pe_bm PySem.F.plainAttrs_list PySem.F.slot_list_append PySem.F.type_list_append mt_append ho ha)) (jss_one (js_for (passes_of rfl) rfl (ji_seq (jv 7)) (pg_tup rfl (pgs_cons (pg_name (i := 8) sc_program_text.nd rfl (Or.inl rfl)) (pgs_cons (pg_name (i := 9) sc_program_text.nd rfl (Or.inl rfl)) (pgs_cons (pg_name (i := 10) sc_program_text.nd rfl (Or.inl rfl)) pgs_nil)))) (fun _ _ => (jss_one (js_app (i := 3) rfl (Or.inl rfl) (je_fj (.cons je_str (.cons (je_fmt (jv 5)) (.cons je_str (.cons (je_fmt (jv 8)) (.cons je_str (.cons (je_fmt (jcall o_doing_text (hr.mono (by decide)) (pd rfl rfl rfl rfl) (ja_cons (jv 9) ja_nil))) (.cons je_str (.cons (je_fmt (jv 10)) .nil))))))))) (hb := fun ho ha => pe_bm PySem.F.plainAttrs_list PySem.F.slot_list_append PySem.F.type_list_append mt_append ho ha))))))))) (jss_one (js_ret (je_join (JE.jb je_str) (jw 3)))))))
theorem sc_check_words : FnScope ["words", "kinds", "line", "field", "k", "word"] ["words", "kinds", "line", "field"] (defScope (topS 19)) := ⟨rfl, rfl, rfl, by decide +kernel, rfl, by decide +kernel, by decide +kernel⟩
def s_check_words : En → M (Fl × En) := sSeq (sFor (iEnumS (aCons (eVar 0) (aNil))) (.tp [4, 5]) (sIf (tOor (tBl (e2 geM (eVar 4) (e1 lenM (eVar 1)))) (tNt (tBl (eCall 2 m__is_of_kind (aCons (eVar 5) (aCons (e2 ixM (eVar 1) (eVar 4)) (aNil))))))) (sRaise "InvalidText" "line" "field" (aCons (eVar 2) (aCons (e2 addM (eVar 3) (eVar 4)) (aNil)))) (sNil))) (sIf (tBl (e2 ltM (e1 lenM (eVar 0)) (e1 lenM (eVar 1)))) (sRaise "InvalidText" "line" "field" (aCons (eVar 2) (aCons (e2 addM (eVar 3) (e1 lenM (eVar 0))) (aNil)))) (sNil))
def m_check_words : List D → M D := runB 6 s_check_words
theorem d_check_words (F : Fn0 K mg "check_words" (topS 19) ["words", "kinds", "line", "field"]) (B : Blt mg) (o__is_of_kind : Own P w K mg base 3 "_is_of_kind" ["word", "kind"] m__is_of_kind) (x_InvalidText : Xc P w K mg base "InvalidText" "line" "field") : Own P w K mg base 4 "check_words" ["words", "kinds", "line", "field"] m_check_words :=
  own_def F sc_check_words fun fa cdv A outer s H G μ E hr => by
    have hu := hr.units
    have hu1 := Nat.lt_of_le_of_lt (Nat.add_le_add_left (by decide : 1 ≤ 65) _) (hv_of hr)
    have hv := hv_of hr
    exact (jss_cons (js_for (passes_of rfl) rfl (ji_enumS (by rfl) B.enumerate (ja_cons (jv 0) ja_nil)) (pg_tup rfl (pgs_cons (pg_name (i := 4) sc_check_words.nd rfl (Or.inl rfl)) (pgs_cons (pg_name (i := 5) sc_check_words.nd rfl (Or.inl rfl)) pgs_nil))) (fun _ _ => (jss_one (js_if (JW.jt (jw_or (jt_cmp op_geO o_ge (JE.jb (jv 4)) (JE.jb (je_callB call_len c_len (by rfl) B.len (by decide +kernel) (JE.jb (jv 1)))) (nomark _)) (jw_or1 (jt_not (jt_val (jcall o__is_of_kind (hr.mono (by decide)) (pd rfl rfl rfl rfl) (ja_cons (jv 5) (ja_cons (je_ix ix_seq o_ix (JE.jb (jv 1)) (JE.jb (jv 4)) (fun _ _ => rfl)) ja_nil)))))))) (jss_one (js_raise rfl (takes_of rfl rfl rfl rfl) x_InvalidText (hr.mono (by decide)) (ja_cons (jv 2) (ja_cons (je_op op_addA o_add (JE.jb (jv 3)) (JE.jb (jv 4))) ja_nil)))) jss_nil)))) (jss_one (js_if (jt_cmp op_ltO o_lt (JE.jb (je_callB call_len c_len (by rfl) B.len (by decide +kernel) (JE.jb (jv 0)))) (JE.jb (je_callB call_len c_len (by rfl) B.len (by decide +kernel) (JE.jb (jv 1)))) (nomark _)) (jss_one (js_raise rfl (takes_of rfl rfl rfl rfl) x_InvalidText (hr.mono (by decide)) (ja_cons (jv 2) (ja_cons (je_op op_addA o_add (JE.jb (jv 3)) (JE.jb (je_callB call_len c_len (by rfl) B.len (by decide +kernel) (JE.jb (jv 0))))) ja_nil)))) jss_nil)))
theorem sc_doing_read : FnScope ["text", "line", "field", "words"] ["text", "line", "field"] (defScope (topS 16)) := ⟨rfl, rfl, rfl, by decide +kernel, rfl, by decide +kernel, by decide +kernel⟩
def s_doing_read : En → M (Fl × En) := sSeq (sSet 3 (eM1 splitM (eVar 0) (eC (.str " ")))) (sSeq (sExpr (eCall 4 m_check_words (aCons (eVar 3) (aCons (eCall 1 m_doing_kinds (aCons (eVar 3) (aNil))) (aCons (eVar 1) (aCons (eVar 2) (aNil))))))) (sRet (e1 tupM (eVar 3))))
def m_doing_read : List D → M D := runB 4 s_doing_read
theorem d_doing_read (F : FnD K mg "doing_read" (topS 16) ["text", "line", "field"] [.int 0, .int 0]) (B : Blt mg) (o_check_words : Own P w K mg base 4 "check_words" ["words", "kinds", "line", "field"] m_check_words) (o_doing_kinds : Own P w K mg base 1 "doing_kinds" ["words"] m_doing_kinds) : OwnD P w K mg base 5 "doing_read" ["text", "line", "field"] m_doing_read [.int 0, .int 0] :=
  own_defD F sc_doing_read fun fa cdv A outer s H G μ E hr => by
    have hu := hr.units
    have hu1 := Nat.lt_of_le_of_lt (Nat.add_le_add_left (by decide : 1 ≤ 65) _) (hv_of hr)
    have hv := hv_of hr
    exact (jss_cons (js_set (i := 3) sc_doing_read.nd rfl (Or.inl rfl) (je_split (JE.jb (jv 0)) (JE.jb je_str))) (jss_cons (js_expr (JE.jb (jcall o_check_words (hr.mono (by decide)) (pd rfl rfl rfl rfl) (ja_cons (jv 3) (ja_cons (jcall o_doing_kinds (hr.mono (by decide)) (pd rfl rfl rfl rfl) (ja_cons (jv 3) ja_nil)) (ja_cons (jv 1) (ja_cons (jv 2) ja_nil))))))) (jss_one (js_ret (je_callTy call_tuple_of c_tup (by rfl) B.tuple (by decide +kernel) (JE.jb (jv 3)))))))
theorem sc_lines_read : FnScope ["lines", "first", "parties", "channels", "at", "line", "words", "name", "ends", "arrows"] ["lines", "first"] (defScope (topS 18)) := ⟨rfl, rfl, rfl, by decide +kernel, rfl, by decide +kernel, by decide +kernel⟩
def s_lines_read : En → M (Fl × En) := sSeq (sSet 2 (eNew (fLst (aNil)))) (sSeq (sOwn 3 (fLst (aNil))) (sSeq (sFor (iEnumS (aCons (eVar 0) (aNil))) (.tp [4, 5]) (sSeq (sSet 6 (eM1 splitM (eVar 5) (eC (.str " ")))) (sSeq (sExpr (eCall 4 m_check_words (aCons (eVar 6) (aCons (eCall 2 m__line_kinds (aCons (eVar 6) (aCons (eVar 2) (aNil)))) (aCons (e2 addM (eVar 1) (eVar 4)) (aCons (eC (.int 0)) (aNil))))))) (sIf (tBl (e2 eqM (e2 ixM (eVar 6) (eC (.int 0))) (eC (.str "channel")))) (sApp 3 (e1 tupM (eSl (eVar 6) (oSo (eC (.int 1))) oNo))) (sIf (tBl (e2 eqM (e2 ixM (eVar 6) (eC (.int 0))) (eC (.str "party")))) (sLput 2 (eTup (aCons (e2 ixM (eVar 6) (eC (.int 1))) (aCons (eCall 1 m_ends_read (aCons (e2 ixM (eVar 6) (eC (.int 2))) (aNil))) (aCons (eTup (aNil)) (aNil))))) appK) (sSeq (sUn (.tp [7, 8, 9]) (e2 (drL ixM) (eVar 2) (eNeg (eC (.int 1))))) (sLset 2 (eNeg (eC (.int 1))) (eTup (aCons (eVar 7) (aCons (eVar 8) (aCons (e2 addM (eVar 9) (eTup (aCons (eCall 1 m_arrow_read (aCons (eVar 6) (aNil))) (aNil)))) (aNil)))))))))))) (sRet (eTup (aCons (e1 (dr1 tupM) (eVar 2)) (aCons (e1 tupM (eLook 3)) (aNil)))))))
def m_lines_read : List D → M D := runB 10 s_lines_read
theorem d_lines_read (F : Fn0 K mg "lines_read" (topS 18) ["lines", "first"]) (B : Blt mg) (o_check_words : Own P w K mg base 4 "check_words" ["words", "kinds", "line", "field"] m_check_words) (o__line_kinds : Own P w K mg base 3 "_line_kinds" ["words", "parties"] m__line_kinds) (o_ends_read : Own P w K mg base 2 "ends_read" ["word"] m_ends_read) (o_arrow_read : Own P w K mg base 1 "arrow_read" ["words"] m_arrow_read) : Own P w K mg base 5 "lines_read" ["lines", "first"] m_lines_read :=
  own_def F sc_lines_read fun fa cdv A outer s H G μ E hr => by
    have hu := hr.units
    have hu1 := Nat.lt_of_le_of_lt (Nat.add_le_add_left (by decide : 1 ≤ 65) _) (hv_of hr)
    have hv := hv_of hr
    exact (jss_cons (js_set (i := 2) sc_lines_read.nd rfl (Or.inl rfl) (JF.new (jf_lst ja_nil))) (jss_cons (js_own (i := 3) sc_lines_read.nd rfl (Or.inl rfl) (jf_lst ja_nil)) (jss_cons (js_for (passes_of rfl) rfl (ji_enumS (by rfl) B.enumerate (ja_cons (jv 0) ja_nil)) (pg_tup rfl (pgs_cons (pg_name (i := 4) sc_lines_read.nd rfl (Or.inl rfl)) (pgs_cons (pg_name (i := 5) sc_lines_read.nd rfl (Or.inl rfl)) pgs_nil))) (fun _ _ => (jss_cons (js_set (i := 6) sc_lines_read.nd rfl (Or.inl rfl) (je_split (JE.jb (jv 5)) (JE.jb je_str))) (jss_cons (js_expr (JE.jb (jcall o_check_words (hr.mono (by decide)) (pd rfl rfl rfl rfl) (ja_cons (jv 6) (ja_cons (jcall o__line_kinds (hr.mono (by decide)) (pd rfl rfl rfl rfl) (ja_cons (jv 6) (ja_cons (jv 2) ja_nil))) (ja_cons (je_op op_addA o_add (JE.jb (jv 1)) (JE.jb (jv 4))) (ja_cons je_int ja_nil))))))) (jss_one (js_if (jt_cmp (op_eqD hu) o_eq (JE.jb (je_ix ix_seq o_ix (JE.jb (jv 6)) (JE.jb je_int) (fun _ _ => rfl))) (JE.jb je_str) (nomark _)) (jss_one (js_app (i := 3) rfl (Or.inl rfl) (je_callTy call_tuple_of c_tup (by rfl) B.tuple (by decide +kernel) (JE.jb (je_slice (JE.jb (jv 6)) (jo_so je_int) jo_no))) (hb := fun ho ha => pe_bm PySem.F.plainAttrs_list PySem.F.slot_list_append PySem.F.type_list_append mt_append ho ha))) (jss_one (js_if (jt_cmp (op_eqD hu) o_eq (JE.jb (je_ix ix_seq o_ix (JE.jb (jv 6)) (JE.jb je_int) (fun _ _ => rfl))) (JE.jb je_str) (nomark _)) (jss_one (js_appR (i := 2) rfl (Or.inl rfl) (je_tup (ja_cons (je_ix ix_seq o_ix (JE.jb (jv 6)) (JE.jb je_int) (fun _ _ => rfl)) (ja_cons (jcall o_ends_read (hr.mono (by decide)) (pd rfl rfl rfl rfl) (ja_cons (je_ix ix_seq o_ix (JE.jb (jv 6)) (JE.jb je_int) (fun _ _ => rfl)) ja_nil)) (ja_cons (je_tup ja_nil) ja_nil)))) (hb := fun ho ha => pe_bm PySem.F.plainAttrs_list PySem.F.slot_list_append PySem.F.type_list_append mt_append ho ha))) (jss_cons (js_un (pt := (.tp [7, 8, 9])) (je_ix ix_seq (dr_l o_ix) (JE.jb (jv 2)) (JE.jb (je_neg je_int)) (fun _ _ => rfl)) (pg_tup rfl (pgs_cons (pg_name (i := 7) sc_lines_read.nd rfl (Or.inl rfl)) (pgs_cons (pg_name (i := 8) sc_lines_read.nd rfl (Or.inl rfl)) (pgs_cons (pg_name (i := 9) sc_lines_read.nd rfl (Or.inl rfl)) pgs_nil))))) (jss_one (js_lset (j := 2) rfl (Or.inl rfl) (je_neg je_int) (je_tup (ja_cons (jv 7) (ja_cons (jv 8) (ja_cons (je_op op_addA o_add (JE.jb (jv 9)) (JE.jb (je_tup (ja_cons (jcall o_arrow_read (hr.mono (by decide)) (pd rfl rfl rfl rfl) (ja_cons (jv 6) ja_nil)) ja_nil)))) ja_nil))))))))))))))) (jss_one (js_ret (je_tup (ja_cons (je_callTy call_tuple_of (dr_c c_tup) (by rfl) B.tuple (by decide +kernel) (JE.jb (jv 2))) (ja_cons (je_callTy call_tuple_of c_tup (by rfl) B.tuple (by decide +kernel) (jw 3)) ja_nil))))))))
theorem sc__law_doing_right : FnScope ["_law_doing", "_law_told", "_law_due"] ["_law_doing"] (defScope (topS 40)) := ⟨rfl, rfl, rfl, by decide +kernel, rfl, by decide +kernel, by decide +kernel⟩
def s__law_doing_right : En → M (Fl × En) := sSeq (sPar 1 2 (eCall 1 m_doing_text (aCons (eVar 0) (aNil))) (eCall 1 m__law_words (aCons (eVar 0) (aNil)))) (sRet (vAnd (eCall 2 (m__law_same 10) (aCons (eVar 1) (aCons (eVar 2) (aNil)))) (vAnd (eCall 2 (m__law_same 10) (aCons (eCallD 3 [.int 0, .int 0] m_doing_read (aCons (eVar 2) (aNil))) (aCons (eVar 0) (aNil)))) (eCall 2 (m__law_same 10) (aCons (eCall 1 m_doing_text (aCons (eCallD 3 [.int 0, .int 0] m_doing_read (aCons (eVar 1) (aNil))) (aNil))) (aCons (eVar 2) (aNil)))))))
def m__law_doing_right : List D → M D := runB 3 s__law_doing_right
theorem d__law_doing_right (F : Fn0 K mg "_law_doing_right" (topS 40) ["_law_doing"]) (B : Blt mg) (o_doing_text : Own P w K mg base 1 "doing_text" ["doing"] m_doing_text) (o__law_words : Own P w K mg base 1 "_law_words" ["_law_doing"] m__law_words) (o__law_same : Own P w K mg base 10 "_law_same" ["_law_told", "_law_due"] (m__law_same 10)) (o_doing_read : OwnD P w K mg base 5 "doing_read" ["text", "line", "field"] m_doing_read [.int 0, .int 0]) : Own P w K mg base 11 "_law_doing_right" ["_law_doing"] m__law_doing_right :=
  own_def F sc__law_doing_right fun fa cdv A outer s H G μ E hr => by
    have hu := hr.units
    have hu1 := Nat.lt_of_le_of_lt (Nat.add_le_add_left (by decide : 1 ≤ 65) _) (hv_of hr)
    have hv := hv_of hr
    exact (jss_cons (js_par (i := 1) (j := 2) rfl sc__law_doing_right.nd rfl rfl (jcall o_doing_text (hr.mono (by decide)) (pd rfl rfl rfl rfl) (ja_cons (jv 0) ja_nil)) (jcall o__law_words (hr.mono (by decide)) (pd rfl rfl rfl rfl) (ja_cons (jv 0) ja_nil))) (jss_one (js_ret (je_and (jcall o__law_same (hr.mono (by decide)) (pd rfl rfl rfl rfl) (ja_cons (jv 1) (ja_cons (jv 2) ja_nil))) (je_and (jcall o__law_same (hr.mono (by decide)) (pd rfl rfl rfl rfl) (ja_cons (jcallD o_doing_read (hr.mono (by decide)) (pd rfl rfl rfl rfl) (ja_cons (jv 2) ja_nil) (fun _ _ => (.cons (.int _) (.cons (.int _) .nil)))) (ja_cons (jv 0) ja_nil))) (je_one (jcall o__law_same (hr.mono (by decide)) (pd rfl rfl rfl rfl) (ja_cons (jcall o_doing_text (hr.mono (by decide)) (pd rfl rfl rfl rfl) (ja_cons (jcallD o_doing_read (hr.mono (by decide)) (pd rfl rfl rfl rfl) (ja_cons (jv 1) ja_nil) (fun _ _ => (.cons (.int _) (.cons (.int _) .nil)))) ja_nil)) (ja_cons (jv 2) ja_nil)))))))))
theorem sc_program_read : FnScope ["text"] ["text"] (defScope (topS 17)) := ⟨rfl, rfl, rfl, by decide +kernel, rfl, by decide +kernel, by decide +kernel⟩
def s_program_read : En → M (Fl × En) := sRet (eCall 2 m_lines_read (aCons (eIf (tBl (e2 eqM (eVar 0) (eC (.str "")))) (eLst (aNil)) (eM1 splitM (eVar 0) (eC (.str "\n")))) (aCons (eC (.int 0)) (aNil))))
def m_program_read : List D → M D := runB 1 s_program_read
theorem d_program_read (F : Fn0 K mg "program_read" (topS 17) ["text"]) (B : Blt mg) (o_lines_read : Own P w K mg base 5 "lines_read" ["lines", "first"] m_lines_read) : Own P w K mg base 6 "program_read" ["text"] m_program_read :=
  own_def F sc_program_read fun fa cdv A outer s H G μ E hr => by
    have hu := hr.units
    have hu1 := Nat.lt_of_le_of_lt (Nat.add_le_add_left (by decide : 1 ≤ 65) _) (hv_of hr)
    have hv := hv_of hr
    exact (jss_one (js_ret (jcall o_lines_read (hr.mono (by decide)) (pd rfl rfl rfl rfl) (ja_cons (je_if (jt_cmp (op_eqD hu) o_eq (JE.jb (jv 0)) (JE.jb je_str) (nomark _)) (je_lst ja_nil) (je_split (JE.jb (jv 0)) (JE.jb je_str))) (ja_cons je_int ja_nil)))))
theorem sc__law_pair_right : FnScope ["_law_pair", "_law_due", "_law_told"] ["_law_pair"] (defScope (topS 41)) := ⟨rfl, rfl, rfl, by decide +kernel, rfl, by decide +kernel, by decide +kernel⟩
def s__law_pair_right : En → M (Fl × En) := sSeq (sSet 1 (eM1 joinM (eC (.str "\n")) (eCall 2 m__law_lines (aCons (e2 ixM (eVar 0) (eC (.int 0))) (aCons (e2 ixM (eVar 0) (eC (.int 1))) (aNil)))))) (sSeq (sIf (tNt (tBl (eCall 2 (m__law_same 10) (aCons (eCall 1 m_program_text (aCons (eVar 0) (aNil))) (aCons (eVar 1) (aNil)))))) (sRet (eC (.bl false))) (sNil)) (sSeq (sSet 2 (eCall 1 m_program_read (aCons (eVar 1) (aNil)))) (sRet (vAnd (eCall 2 (m__law_same 10) (aCons (eVar 2) (aCons (eVar 0) (aNil)))) (eCall 2 (m__law_same 10) (aCons (eCall 1 m_program_text (aCons (eVar 2) (aNil))) (aCons (eVar 1) (aNil))))))))
def m__law_pair_right : List D → M D := runB 3 s__law_pair_right
theorem d__law_pair_right (F : Fn0 K mg "_law_pair_right" (topS 41) ["_law_pair"]) (B : Blt mg) (o__law_lines : Own P w K mg base 2 "_law_lines" ["_law_parties", "_law_channels"] m__law_lines) (o__law_same : Own P w K mg base 10 "_law_same" ["_law_told", "_law_due"] (m__law_same 10)) (o_program_text : Own P w K mg base 2 "program_text" ["program"] m_program_text) (o_program_read : Own P w K mg base 6 "program_read" ["text"] m_program_read) : Own P w K mg base 11 "_law_pair_right" ["_law_pair"] m__law_pair_right :=
  own_def F sc__law_pair_right fun fa cdv A outer s H G μ E hr => by
    have hu := hr.units
    have hu1 := Nat.lt_of_le_of_lt (Nat.add_le_add_left (by decide : 1 ≤ 65) _) (hv_of hr)
    have hv := hv_of hr
    exact (jss_cons (js_set (i := 1) sc__law_pair_right.nd rfl (Or.inl rfl) (je_join (JE.jb je_str) (JE.jb (jcall o__law_lines (hr.mono (by decide)) (pd rfl rfl rfl rfl) (ja_cons (je_ix ix_seq o_ix (JE.jb (jv 0)) (JE.jb je_int) (fun _ _ => rfl)) (ja_cons (je_ix ix_seq o_ix (JE.jb (jv 0)) (JE.jb je_int) (fun _ _ => rfl)) ja_nil)))))) (jss_cons (js_if (jt_not (jt_val (jcall o__law_same (hr.mono (by decide)) (pd rfl rfl rfl rfl) (ja_cons (jcall o_program_text (hr.mono (by decide)) (pd rfl rfl rfl rfl) (ja_cons (jv 0) ja_nil)) (ja_cons (jv 1) ja_nil))))) (jss_one (js_ret je_bl)) jss_nil) (jss_cons (js_set (i := 2) sc__law_pair_right.nd rfl (Or.inl rfl) (jcall o_program_read (hr.mono (by decide)) (pd rfl rfl rfl rfl) (ja_cons (jv 1) ja_nil))) (jss_one (js_ret (je_and (jcall o__law_same (hr.mono (by decide)) (pd rfl rfl rfl rfl) (ja_cons (jv 2) (ja_cons (jv 0) ja_nil))) (je_one (jcall o__law_same (hr.mono (by decide)) (pd rfl rfl rfl rfl) (ja_cons (jcall o_program_text (hr.mono (by decide)) (pd rfl rfl rfl rfl) (ja_cons (jv 2) ja_nil)) (ja_cons (jv 1) ja_nil))))))))))
theorem sc_law : FnScope ["_law_script", "_law_feed_here", "_law_pairs", "_law_lap", "_law_program", "_law_name", "_law_pair", "_law_doings_here", "_law_doing"] ["_law_script"] (defScope (topS 43)) := ⟨rfl, rfl, rfl, by decide +kernel, rfl, by decide +kernel, by decide +kernel⟩
def s_law : En → M (Fl × En) := sSeq (sSet 1 (eCall 1 PG.m_law_feed (aCons (eVar 0) (aNil)))) (sSeq (sOwn 2 (fLst (aCons (eTup (aCons (eTup (aNil)) (aCons (eTup (aNil)) (aNil)))) (aNil)))) (sSeq (sFor (iRange1 (aCons (eC (.int 3)) (aNil))) (.nm 3) (sSeq (sSet 4 (eCall 1 PG.m_law_built (aCons (eVar 1) (aNil)))) (sExt 2 (eLst (aCons (eVar 4) (aCons (eCall 2 m__law_loose (aCons (eVar 1) (aCons (eVar 4) (aNil)))) (aCons (eTup (aCons (e2 ixM (eVar 4) (eC (.int 0))) (aCons (eTup (aNil)) (aNil)))) (aCons (eTup (aCons (eTup (aNil)) (aCons (e2 ixM (eVar 4) (eC (.int 1))) (aNil)))) (aNil))))))))) (sSeq (sSet 5 (e2 ixM (eCall 2 PG.m_law_names (aCons (eVar 1) (aCons (eC (.int 1)) (aNil)))) (eC (.int 0)))) (sSeq (sApp 2 (eTup (aCons (eTup (aCons (eTup (aCons (eVar 5) (aCons (eTup (aCons (eC (.int 0)) (aNil))) (aCons (eTup (aNil)) (aNil))))) (aCons (eTup (aCons (eVar 5) (aCons (eTup (aNil)) (aCons (eTup (aNil)) (aNil))))) (aCons (eTup (aCons (eVar 5) (aCons (eTup (aCons (eC (.int 9)) (aCons (eC (.int 10)) (aCons (e2 powM (eC (.int 10)) (eC (.int 59))) (aNil))))) (aCons (eTup (aNil)) (aNil))))) (aNil))))) (aCons (eTup (aCons (eTup (aCons (eVar 5) (aCons (eVar 5) (aCons (eVar 5) (aCons (eC (.str "call")) (aNil)))))) (aNil))) (aNil))))) (sSeq (sFrz 2 (sFor (iSeq (eVar 2)) (.nm 6) (sIf (tNt (tBl (eCall 1 m__law_pair_right (aCons (eVar 6) (aNil))))) (sRet (eC (.bl false))) (sNil)))) (sSeq (sOwn 7 (fLst (aCons (eTup (aCons (eC (.str "do")) (aCons (eVar 5) (aNil)))) (aCons (eTup (aCons (eC (.str "put")) (aCons (eVar 5) (aCons (eVar 5) (aNil))))) (aCons (eTup (aCons (eC (.str "take")) (aCons (eVar 5) (aCons (eC (.str "do")) (aNil))))) (aCons (eTup (aCons (eC (.str "put")) (aCons (eC (.str "put")) (aCons (eC (.str "put")) (aNil))))) (aNil))))))) (sSeq (sFor (iSeq (eSl (eLook 2) (oSo (eC (.int 1))) (oSo (eC (.int 3))))) (.nm 6) (sExt 7 (eCall 1 m__law_doings_of (aCons (eVar 6) (aNil))))) (sFrz 7 (sRet (e2 eqM (eL (eLc (iSeq (eVar 7)) (.nm 8) [8] (tNt (tBl (eCall 1 m__law_doing_right (aCons (eVar 8) (aNil))))) (eVar 8))) (eLst (aNil))))))))))))
def m_law : List D → M D := runB 9 s_law
theorem d_law (F : Fn0 K mg "law" (topS 43) ["_law_script"]) (B : Blt mg) (o__law_feed : Own P w K mg base 1 "_law_feed" ["_law_script"] PG.m_law_feed) (o__law_built : Own P w K mg base 4 "_law_built" ["_law_feed_here"] PG.m_law_built) (o__law_loose : Own P w K mg base 3 "_law_loose" ["_law_feed_here", "_law_program"] m__law_loose) (o__law_names : Own P w K mg base 3 "_law_names" ["_law_feed_here", "_law_many"] PG.m_law_names) (o__law_pair_right : Own P w K mg base 11 "_law_pair_right" ["_law_pair"] m__law_pair_right) (o__law_doings_of : Own P w K mg base 1 "_law_doings_of" ["_law_pair"] m__law_doings_of) (o__law_doing_right : Own P w K mg base 11 "_law_doing_right" ["_law_doing"] m__law_doing_right) : Own P w K mg base 12 "law" ["_law_script"] m_law :=
  own_def F sc_law fun fa cdv A outer s H G μ E hr => by
    have hu := hr.units
    have hu1 := Nat.lt_of_le_of_lt (Nat.add_le_add_left (by decide : 1 ≤ 65) _) (hv_of hr)
    have hv := hv_of hr
    exact (jss_cons (js_set (i := 1) sc_law.nd rfl (Or.inl rfl) (jcall o__law_feed (hr.mono (by decide)) (pd rfl rfl rfl rfl) (ja_cons (jv 0) ja_nil))) (jss_cons (js_own (i := 2) sc_law.nd rfl (Or.inl rfl) (jf_lst (ja_cons (je_tup (ja_cons (je_tup ja_nil) (ja_cons (je_tup ja_nil) ja_nil))) ja_nil))) (jss_cons (js_for (passes_of rfl) rfl (ji_range1 (by rfl) B.range (ja_cons je_int ja_nil)) (pg_name (i := 3) sc_law.nd rfl (Or.inl rfl)) (fun _ _ => (jss_cons (js_set (i := 4) sc_law.nd rfl (Or.inl rfl) (jcall o__law_built (hr.mono (by decide)) (pd rfl rfl rfl rfl) (ja_cons (jv 1) ja_nil))) (jss_one (js_ext (i := 2) rfl (Or.inl rfl) (je_lst (ja_cons (jv 4) (ja_cons (jcall o__law_loose (hr.mono (by decide)) (pd rfl rfl rfl rfl) (ja_cons (jv 1) (ja_cons (jv 4) ja_nil))) (ja_cons (je_tup (ja_cons (je_ix ix_seq o_ix (JE.jb (jv 4)) (JE.jb je_int) (fun _ _ => rfl)) (ja_cons (je_tup ja_nil) ja_nil))) (ja_cons (je_tup (ja_cons (je_tup ja_nil) (ja_cons (je_ix ix_seq o_ix (JE.jb (jv 4)) (JE.jb je_int) (fun _ _ => rfl)) ja_nil))) ja_nil))))) (hb := fun ho ha => pe_bm PySem.F.plainAttrs_list PySem.F.slot_list_extend PySem.F.type_list_extend mt_extend ho ha)))))) (jss_cons (js_set (i := 5) sc_law.nd rfl (Or.inl rfl) (je_ix ix_seq o_ix (JE.jb (jcall o__law_names (hr.mono (by decide)) (pd rfl rfl rfl rfl) (ja_cons (jv 1) (ja_cons je_int ja_nil)))) (JE.jb je_int) (fun _ _ => rfl))) (jss_cons (js_app (i := 2) rfl (Or.inl rfl) (je_tup (ja_cons (je_tup (ja_cons (je_tup (ja_cons (jv 5) (ja_cons (je_tup (ja_cons je_int ja_nil)) (ja_cons (je_tup ja_nil) ja_nil)))) (ja_cons (je_tup (ja_cons (jv 5) (ja_cons (je_tup ja_nil) (ja_cons (je_tup ja_nil) ja_nil)))) (ja_cons (je_tup (ja_cons (jv 5) (ja_cons (je_tup (ja_cons je_int (ja_cons je_int (ja_cons (je_op op_pow o_pow (JE.jb je_int) (JE.jb je_int)) ja_nil)))) (ja_cons (je_tup ja_nil) ja_nil)))) ja_nil)))) (ja_cons (je_tup (ja_cons (je_tup (ja_cons (jv 5) (ja_cons (jv 5) (ja_cons (jv 5) (ja_cons je_str ja_nil))))) ja_nil)) ja_nil))) (hb := fun ho ha => pe_bm PySem.F.plainAttrs_list PySem.F.slot_list_append PySem.F.type_list_append mt_append ho ha)) (jss_cons (js_frz (i := 2) (js_for (passes_of rfl) rfl (ji_seq (jv 2)) (pg_name (i := 6) sc_law.nd rfl (Or.inl rfl)) (fun _ _ => (jss_one (js_if (jt_not (jt_val (jcall o__law_pair_right (hr.mono (by decide)) (pd rfl rfl rfl rfl) (ja_cons (jv 6) ja_nil)))) (jss_one (js_ret je_bl)) jss_nil))))) (jss_cons (js_own (i := 7) sc_law.nd rfl (Or.inl rfl) (jf_lst (ja_cons (je_tup (ja_cons je_str (ja_cons (jv 5) ja_nil))) (ja_cons (je_tup (ja_cons je_str (ja_cons (jv 5) (ja_cons (jv 5) ja_nil)))) (ja_cons (je_tup (ja_cons je_str (ja_cons (jv 5) (ja_cons je_str ja_nil)))) (ja_cons (je_tup (ja_cons je_str (ja_cons je_str (ja_cons je_str ja_nil)))) ja_nil)))))) (jss_cons (js_for (passes_of rfl) rfl (ji_seq (je_slice (jw 2) (jo_so je_int) (jo_so je_int))) (pg_name (i := 6) sc_law.nd rfl (Or.inl rfl)) (fun _ _ => (jss_one (js_ext (i := 7) rfl (Or.inl rfl) (jcall o__law_doings_of (hr.mono (by decide)) (pd rfl rfl rfl rfl) (ja_cons (jv 6) ja_nil)) (hb := fun ho ha => pe_bm PySem.F.plainAttrs_list PySem.F.slot_list_extend PySem.F.type_list_extend mt_extend ho ha))))) (jss_one (js_frz (i := 7) (js_ret (je_cmp (op_eqD hu) o_eq (JE.jb (JF.je (jf_lc (own := [("_law_doing", 8)]) rfl sc_law.nd (ji_seq (jv 7)) (blkOk_by (N := ["_law_script", "_law_feed_here", "_law_pairs", "_law_lap", "_law_program", "_law_name", "_law_pair", "_law_doings_here", "_law_doing"]) (sc := defScope (topS 43)) (by decide +kernel)) (by decide) (fun _ _ _ _ _ => (pg_name (i := 8) sc_law.nd rfl (Or.inl rfl))) (fun _ _ _ _ _ => (jts_one (jt_not (jt_val (jcall o__law_doing_right (hr.mono (by decide)) px (ja_cons (jv 8) ja_nil)))))) (fun _ _ _ _ _ => (jv 8))))) (JE.jb (je_lst ja_nil)) (nomark _)))))))))))))
end
end LK

set_option linter.all false
set_option maxRecDepth 100000
set_option maxHeartbeats 4000000
/-! K61: same, names. -/
namespace LK
open PySem PySem.Spec L2 PL PG
def Fla : Nat → D → Prop
  | _, .non => True
  | _, .bl _ => True
  | _, .int _ => True
  | _, .str x => PyData.strOk x = true
  | n + 1, .tup ds => ds.length ≤ 10000 ∧ ∀ d ∈ ds, Fla n d
  | _, _ => False
theorem eqv_bb {b : Bool} : (D.bl b).eqv (.bl b) = true := by simp [D.eqv, D.py, PyData.eqv]
theorem same_leaf {f : List D → M D} {d : D} {st : Sto} {Q : D → Sto → Prop} (h : Fla 0 d) (q : Q (.bl true) st) : wp (runB 3 (s__law_same f) [d, d]) Q st := by
  refine w_run' [.val d, .val d, .no] rfl ?_
  unfold s__law_same
  cases d with
  | non =>
    subst_eqs
    exact q
  | bl b =>
    subst_eqs
    refine w_eq shp_bl.shp shp_bl.shp ?_
    rw [eqv_bb]
    subst_eqs
    exact q
  | int i =>
    subst_eqs
    refine w_eq shp_int.shp shp_int.shp ?_
    rw [eqv_ii, beq_self_eq_true]
    subst_eqs
    exact q
  | str x =>
    have hx : (D.str x).shp = true := (shp_str h).shp
    subst_eqs
    refine w_eq hx hx ?_
    rw [eqv_ss, beq_self_eq_true]
    subst_eqs
    exact q
  | tup ds => exact h.elim
  | lst ds => exact h.elim
  | frz ds => exact h.elim
  | ref ds => exact h.elim
theorem spec_same : ∀ (n : Nat) (d : D) (st : Sto) (Q : D → Sto → Prop), Fla n d → Q (.bl true) st → wp (m__law_same (n + 1) [d, d]) Q st := by
  intro n
  induction n with
  | zero => exact fun d st Q h q => same_leaf h q
  | succ n ih =>
    intro d st Q h q
    cases d with
    | tup ds =>
      obtain ⟨hl, hd⟩ := h
      show wp (runB 3 (s__law_same (m__law_same (n + 1))) [.tup ds, .tup ds]) Q st
      refine w_run' [.val (.tup ds), .val (.tup ds), .no] rfl ?_
      unfold s__law_same
      subst_eqs
      refine w_ne shp_int.shp shp_int.shp ?_
      rw [eqv_ii, beq_self_eq_true]
      subst_eqs
      refine ⟨_, rfl, w_rangeN (by omega) ?_⟩
      refine lc_filter (by simp [wipeE]) (fun _ => false) _ _ (fun e he T k => ?_) ?_
      · obtain ⟨j, hj, rfl⟩ := List.mem_map.mp he
        have hj : j < ds.length := by simpa using hj
        have ea : atI ds (j : Int) = some ds[j] := atI_nat (List.getElem?_eq_getElem hj)
        subst_eqs
        refine w_ixT ea ?_
        subst_eqs
        refine w_ixT ea ?_
        subst_eqs
        refine ⟨rfl, ih _ _ _ (hd _ (List.getElem_mem hj)) ?_⟩
        subst_eqs
        exact k
      · have e0 : List.filter (fun _ => false) ((List.range ds.length).map fun (i : Nat) => D.int i) = [] := by simp
        rw [e0]
        subst_eqs
        refine ⟨by decide, w_eq shp_nil shp_nil ?_⟩
        have : (D.lst []).eqv (.lst []) = true := by rw [eqv_ll]; rfl
        rw [this]
        subst_eqs
        exact q
    | non => exact same_leaf (f := m__law_same (n + 1)) (d := .non) trivial q
    | bl b => exact same_leaf (f := m__law_same (n + 1)) (d := .bl b) trivial q
    | int i => exact same_leaf (f := m__law_same (n + 1)) (d := .int i) trivial q
    | str x =>
      have hx : PyData.strOk x = true := by simpa [Fla] using h
      exact same_leaf (f := m__law_same (n + 1)) (d := .str x) hx q
    | lst ds => exact h.elim
    | frz ds => exact h.elim
    | ref ds => exact h.elim
end LK

set_option linter.all false
set_option maxRecDepth 100000
set_option maxHeartbeats 4000000
/-! K62: names and numbers as words. -/
namespace LK
open PySem PySem.Spec L2 PL PG
theorem bools_true : ∀ {ds : List D}, (∀ d ∈ ds, d = .bl true) → ∃ bs, bools ds = some bs ∧ bs.all id = true
  | [], _ => ⟨[], rfl, rfl⟩
  | d :: ds, h => by
    obtain ⟨bs, e, hb⟩ := bools_true fun z hz => h z (List.mem_cons_of_mem _ hz)
    have hd := h d List.mem_cons_self
    subst hd
    exact ⟨true :: bs, by unfold bools; rw [e]; rfl, by simp at hb ⊢; exact hb⟩
theorem w_allT {ds : List D} {R : D → Sto → Prop} {st : Sto} (h : ∀ d ∈ ds, d = .bl true) (k : R (.bl true) st) : wp (allM (.lst ds)) R st := by
  obtain ⟨bs, e, hb⟩ := bools_true h
  show wp ((opt (bools ds)).bind fun bs => PL.bl (bs.all id)) R st
  rw [wp_bind, e, wp_some, hb]
  exact ⟨k⟩
theorem it_str {x : Str} (h : x.length ≤ sizeLine) : itD (.str x) = some (x.cps.toList.map charD) := by
  show (if x.length ≤ sizeLine then some (x.cps.toList.map charD) else none) = _
  rw [if_pos h]
theorem in_one {c : Nat} {y : Str} {R : D → Sto → Prop} {st : Sto} (h : c ∈ y.cps.toList) (k : R (.bl true) st) : wp (inM (charD c) (.str y)) R st := by
  show wp (PL.bl (strIn ⟨#[c]⟩ y)) R st
  have e : strIn ⟨#[c]⟩ y = true := by
    show decide (c ∈ y.cps.toList) = true
    exact decide_eq_true h
  rw [e]
  exact ⟨k⟩
theorem abc_mem {c : Nat} (h : Sg c) : c ∈ abc.cps.toList := by
  have all : ∀ c : Nat, c < 123 → 97 ≤ c → c ∈ abc.cps.toList := by decide
  exact all c (by have := h.2; omega) h.1
theorem spec_isname {x : Str} {Q : D → Sto → Prop} {st : Sto} (h : Nm x) (q : Q (.bl true) st) : wp (m_is_name [.str x]) Q st := by
  refine w_run' [.val (.str x), .no] rfl ?_
  unfold s_is_name
  have hl : x.length ≤ sizeLine := small (by have := h.2.1; omega)
  subst_eqs
  refine w_lenS hl ?_
  subst_eqs
  refine k_if (fun _ => ?_) fun e => absurd (of_decide_eq_false e) (by have := h.1; omega)
  subst_eqs
  refine k_if (fun _ => ?_) fun e => absurd (of_decide_eq_false e) (by have := h.2.1; omega)
  subst_eqs
  refine ⟨_, it_str hl, ?_⟩
  refine lc_map (by simp [wipeE]) (fun _ => .bl true) _ _ (fun d hd R k => ?_) ?_
  · obtain ⟨c, hc, rfl⟩ := List.mem_map.mp hd
    subst_eqs
    exact in_one (abc_mem (h.2.2 c hc)) k
  · refine w_allT (fun d hd => ?_) ?_
    · obtain ⟨_, _, rfl⟩ := List.mem_map.mp hd; rfl
    · subst_eqs
      exact q
/-! ### numbers -/
def numS (i : Int) : Str := toString i
theorem num_cps {i : Int} (h : 0 ≤ i) : (numS i).cps.toList = TL.numL i.toNat := by
  obtain ⟨n, rfl⟩ := Int.eq_ofNat_of_zero_le h
  exact TL.tl_num n
theorem num_len {i : Int} (h : Nu i) : 1 ≤ (numS i).length ∧ (numS i).length ≤ 60 := by
  have e : (numS i).length = (TL.numL i.toNat).length := by rw [len_cps, num_cps h.1]
  rw [e]
  refine ⟨?_, TL.numL_len (by decide) ?_⟩
  · have := TL.numL_ne i.toNat
    cases q : TL.numL i.toNat with
    | nil => exact absurd q this
    | cons _ _ => simp
  · have h1 := h.1
    have h2 := h.2
    have h3 : (10 : Nat) ^ 60 = 1000000000000000000000000000000000000000000000000000000000000 := by decide
    rw [h3]; omega
theorem num_dig {i : Int} (h : 0 ≤ i) : ∀ c ∈ (numS i).cps.toList, 48 ≤ c ∧ c ≤ 57 := by
  rw [num_cps h]
  intro c hc
  have := TL.numL_digits i.toNat c hc
  omega
theorem num_ok {i : Int} (h : 0 ≤ i) : PyData.strOk (numS i) = true := by
  unfold PyData.strOk
  rw [Array.all_eq_true_iff_forall_mem]
  intro c hc
  have := num_dig h c (Array.mem_toList_iff.mpr hc)
  exact decide_eq_true (by omega)
theorem numL_head : ∀ n : Nat, n ≠ 0 → ∃ c r, TL.numL n = c :: r ∧ c ≠ 48 := by
  intro n
  induction n using Nat.strongRecOn with
  | _ n ih =>
    intro h
    by_cases h10 : n < 10
    · exact ⟨48 + n, [], TL.numL_lt h10, by omega⟩
    · obtain ⟨c, r, e, hc⟩ := ih (n / 10) (by omega) (by omega)
      exact ⟨c, r ++ [48 + n % 10], by rw [TL.numL_step (by omega), e]; rfl, hc⟩
theorem zero_shp : (D.str "0").shp = true := (shp_str (by decide +kernel)).shp
theorem dig_mem {c : Nat} (h : 48 ≤ c ∧ c ≤ 57) : c ∈ ("0123456789" : Str).cps.toList := by
  have all : ∀ c : Nat, c < 58 → 48 ≤ c → c ∈ ("0123456789" : Str).cps.toList := by decide
  exact all c (by omega) h.1
theorem spec_number {i : Int} {Q : D → Sto → Prop} {st : Sto} (h : Nu i) (q : Q (.bl true) st) : wp (m_is_number_word [.str (numS i)]) Q st := by
  refine w_run' [.val (.str (numS i)), .no] rfl ?_
  unfold s_is_number_word
  obtain ⟨l1, l2⟩ := num_len h
  have hl : (numS i).length ≤ sizeLine := small (by omega)
  subst_eqs
  refine w_lenS hl ?_
  subst_eqs
  refine k_if (fun _ => ?_) fun e => absurd (of_decide_eq_false e) (by omega)
  subst_eqs
  refine k_if (fun e => absurd e (by rw [decide_eq_true (show ((numS i).length : Int) ≤ 60 by omega)]; decide)) fun _ => ?_
  subst_eqs
  refine ⟨_, it_str hl, ?_⟩
  refine lc_map (by simp [wipeE]) (fun _ => .bl true) _ _ (fun d hd R k => ?_) ?_
  · obtain ⟨c, hc, rfl⟩ := List.mem_map.mp hd
    subst_eqs
    exact in_one (dig_mem (num_dig h.1 c hc)) k
  · refine w_allT (fun d hd => ?_) ?_
    · obtain ⟨_, _, rfl⟩ := List.mem_map.mp hd; rfl
    · subst_eqs
      refine w_eq (shp_str (num_ok h.1)).shp zero_shp ?_
      rw [eqv_ss]
      subst_eqs
      refine k_if (fun _ => ?_) fun e => ?_
      · subst_eqs
        exact q
      · have hn : i.toNat ≠ 0 := fun z => by
          have e1 : numS i = "0" := by
            have e2 : (numS i).cps.toList = [48] := by rw [num_cps h.1, z, TL.numL_lt (by decide)]
            have e3 : (numS i).cps = #[48] := Array.toList_inj.mp e2
            have e4 : numS i = ⟨#[48]⟩ := by cases hq : numS i; rw [hq] at e3; exact congrArg Str.mk e3
            rw [e4]; decide
          rw [e1] at e
          exact absurd e (by decide)
        obtain ⟨c, r, e1, hc⟩ := numL_head i.toNat hn
        have e2 : (numS i).cps.toList = c :: r := by rw [num_cps h.1, e1]
        subst_eqs
        refine w_ixS hl (c := c) (by rw [e2]; exact atI_nat (j := 0) rfl) ?_
        subst_eqs
        have hcd := num_dig h.1 c (by rw [e2]; exact List.mem_cons_self)
        refine w_ne (shp_str (by show (#[c] : Array Nat).all _ = true; simp; omega)).shp zero_shp ?_
        rw [eqv_ss]
        have e3 : ((⟨#[c]⟩ : Str) == "0") = false := by
          rw [beq_eq_false_iff_ne]
          intro z
          have := congrArg (fun s : Str => s.cps.toList) z
          have e48 : ("0" : Str).cps.toList = [48] := by decide
          rw [e48] at this
          simp at this
          exact hc this
        rw [e3]
        subst_eqs
        exact q
end LK

set_option linter.all false
set_option maxRecDepth 100000
set_option maxHeartbeats 4000000
/-! K63: words of a line, joined, split, checked; doings. -/
namespace LK
open PySem PySem.Spec L2 PL PG
theorem strs_map : ∀ xs : List Str, strsD (xs.map D.str) = some xs
  | [] => rfl
  | x :: xs => by show (strsD (xs.map D.str)).map (x :: ·) = _; rw [strs_map xs]; rfl
theorem sum_le {xs : List Str} {b : Nat} (h : ∀ x ∈ xs, x.length ≤ b) : (xs.map (·.length)).sum ≤ xs.length * b := by
  induction xs with
  | nil => simp
  | cons x r ih =>
    have h1 := ih fun z hz => h z (List.mem_cons_of_mem _ hz)
    have h2 := h x List.mem_cons_self
    rw [List.map_cons, List.sum_cons, List.length_cons, Nat.succ_mul]
    omega
section
variable {R : D → Sto → Prop} {st : Sto} {xs : List Str} {y : Str}
theorem join_bound (hb : ∀ x ∈ xs, x.length ≤ 700) (hn : xs.length ≤ 300) (hy : y.length ≤ 1) : (xs.map (·.length)).sum + xs.length * y.length ≤ 300000 := by
  have h1 := sum_le hb
  have h2 : xs.length * y.length ≤ 300 * 1 := Nat.mul_le_mul hn hy
  have h3 : xs.length * 700 ≤ 300 * 700 := Nat.mul_le_mul_right _ hn
  omega
theorem w_joinT (hb : ∀ x ∈ xs, x.length ≤ 700) (hn : xs.length ≤ 300) (hy : y.length ≤ 1) (k : R (.str (Txt.join y xs)) st) : wp (joinM y (.tup (xs.map D.str))) R st := by
  show wp (((opt (some (xs.map D.str))).bind _)) R st
  rw [wp_bind, wp_some, wp_bind, strs_map, wp_some, wp_guard]
  exact ⟨decide_eq_true (Nat.le_trans (join_bound hb hn hy) (by decide)), ⟨k⟩⟩
theorem w_joinL (hb : ∀ x ∈ xs, x.length ≤ 700) (hn : xs.length ≤ 300) (hy : y.length ≤ 1) (k : R (.str (Txt.join y xs)) st) : wp (joinM y (.lst (xs.map D.str))) R st := by
  show wp (((opt (some (xs.map D.str))).bind _)) R st
  rw [wp_bind, wp_some, wp_bind, strs_map, wp_some, wp_guard]
  exact ⟨decide_eq_true (Nat.le_trans (join_bound hb hn hy) (by decide)), ⟨k⟩⟩
theorem join_len (hb : ∀ x ∈ xs, x.length ≤ 700) (hn : xs.length ≤ 300) (hy : y.length ≤ 1) : (Txt.join y xs).length ≤ 300000 := by
  rw [TL.join_eq]
  exact Nat.le_trans (PySem.StrLaws.join_length_le y xs) (join_bound hb hn hy)
/-- a joined text is split into its words -/
theorem w_splitJ {s : Nat} (ey : y = ⟨#[s]⟩) (hs : s < 256) (hne : xs ≠ []) (hp : ∀ x ∈ xs, s ∉ x.cps.toList) (hb : ∀ x ∈ xs, x.length ≤ 700) (hn : xs.length ≤ 300) (k : R (.lst (xs.map D.str)) st) : wp (splitM (Txt.join y xs) (.str y)) R st := by
  show wp (guardM _ _) R st
  rw [wp_guard]
  subst ey
  refine ⟨?_, ?_⟩
  · rw [Bool.and_eq_true]
    exact ⟨rfl, decide_eq_true (small (by have := join_len (y := ⟨#[s]⟩) hb hn (Nat.le_refl 1); omega))⟩
  · rw [wp_pure, TL.split_join (y := ⟨#[s]⟩) (s := s) (S := []) rfl (by simp [hs]) hne hp]
    exact k
end
/-! ### check_words -/
theorem spec_check {ws : List Str} {ks : List D} {a b : D} {Q : D → Sto → Prop} {st : Sto} (hl : ws.length = ks.length) (hn : ws.length ≤ 300)
    (h : ∀ (m : Nat) (w : Str) (kd : D), ws[m]? = some w → ks[m]? = some kd → ∀ R : D → Sto → Prop, R (.bl true) st → wp (m__is_of_kind [.str w, kd]) R st) (q : Q .non st) : wp (m_check_words [.lst (ws.map D.str), .tup ks, a, b]) Q st := by
  refine w_run' [.val (.lst (ws.map D.str)), .val (.tup ks), .val a, .val b, .no, .no] rfl ?_
  unfold s_check_words
  refine w_seq (w_for ?_)
  show wp ((aCons (eVar 0) aNil [.val (.lst (ws.map D.str)), .val (.tup ks), .val a, .val b, .no, .no]).bind _) _ st
  rw [wp_bind]
  subst_eqs
  show wp ((line (ws.map D.str).length).bind fun _ => M.pure (numb 0 (ws.map D.str))) _ st
  rw [wp_bind, wp_line, wp_pure]
  refine ⟨small (by rw [List.length_map]; omega), ?_⟩
  refine for_each (fun j ρ s => ∃ x4 x5, ρ = [.val (.lst (ws.map D.str)), .val (.tup ks), .val a, .val b, x4, x5] ∧ s = st) _ 0 _ _ ?_ ?_ ?_
  · rintro m d ρ s hm ⟨x4, x5, rfl, rfl⟩
    rw [numb_get, List.getElem?_map] at hm
    cases hw : ws[m]? with
    | none => rw [hw] at hm; cases hm
    | some w =>
      rw [hw] at hm
      cases hm
      have hmw := (List.getElem?_eq_some_iff.mp hw).1
      have hk : ks[m]? = some ks[m] := List.getElem?_eq_getElem (by omega)
      refine ⟨[.val (.lst (ws.map D.str)), .val (.tup ks), .val a, .val b, .val (.int ((0 + m : Nat) : Int)), .val (.str w)], by simp [Pt.set, setAll], ?_⟩
      rw [Nat.zero_add]
      subst_eqs
      refine k_if (fun e => absurd (of_decide_eq_true e) (by omega)) fun _ => ?_
      subst_eqs
      refine w_ixT (atI_nat hk) ?_
      subst_eqs
      refine ⟨rfl, h m w _ hw hk _ ?_⟩
      subst_eqs
      exact ⟨rfl, _, _, rfl, rfl⟩
  · exact ⟨_, _, rfl, rfl⟩
  · rintro ρ s ⟨x4, x5, rfl, rfl⟩
    subst_eqs
    refine k_if (fun e => absurd (of_decide_eq_true e) (by rw [List.length_map]; omega)) fun _ => ?_
    subst_eqs
    exact q
end LK

set_option linter.all false
set_option maxRecDepth 100000
set_option maxHeartbeats 4000000
/-! K64: ends, kinds. -/
namespace LK
open PySem PySem.Spec L2 PL PG
def endsT (es : List Int) : Str := if es = [] then "-" else Txt.join "," (es.map numS)
theorem int_back {i : Int} (h : Nu i) : PySem.intText? (numS i) = some i := by
  have h1 := h.1
  obtain ⟨n, rfl⟩ := Int.eq_ofNat_of_zero_le h1
  refine TL.int_num ?_
  have := (num_len h).2
  rw [len_cps, num_cps h.1] at this
  show (TL.numL n).length ≤ 4300
  have e : ((n : Int)).toNat = n := Int.toNat_natCast n
  rw [e] at this
  omega
theorem w_intT {i : Int} {R : D → Sto → Prop} {st : Sto} (h : Nu i) (k : R (.int i) st) : wp (intM (.str (numS i))) R st := by
  show wp (guardM _ ((opt (PySem.intText? (numS i))).bind _)) R st
  rw [wp_guard, wp_bind, int_back h, wp_some]
  exact ⟨decide_eq_true (by have := (num_len h).2; omega), ⟨k⟩⟩
theorem num_no {i : Int} {s : Nat} (h : 0 ≤ i) (hs : s < 48 ∨ 57 < s) : s ∉ (numS i).cps.toList := fun hm => by
  have := num_dig h s hm
  omega
theorem spec_ascends {es : List Int} {Q : D → Sto → Prop} {st : Sto} (h : es.Pairwise (· < ·)) (hl : es.length ≤ 300) (q : Q (.bl true) st) : wp (m_ascends [.tup (es.map D.int)]) Q st := by
  refine w_run' [.val (.tup (es.map D.int)), .no] rfl ?_
  unfold s_ascends
  subst_eqs
  refine w_int2 rfl ?_
  refine ⟨_, rfl, ?_⟩
  have hr : wp (rangeL 0 (((es.map D.int).length : Int) - 1)) (fun ds s => ds = (List.range (es.length - 1)).map (fun (i : Nat) => D.int i) ∧ s = st) st := by
    have e : (((es.map D.int).length : Int) - 1).toNat = es.length - 1 := by rw [List.length_map]; omega
    refine w_range ?_ ?_ ?_ ?_
    · rw [List.length_map]; omega
    · rw [List.length_map]; omega
    · rw [e]; exact small (by omega)
    · rw [e]; exact ⟨rfl, rfl⟩
  refine wp_mono hr fun ds s ⟨e1, e2⟩ => ?_
  subst e1 e2
  refine lc_map (by simp [wipeE]) (fun _ => .bl true) _ _ (fun d hd R k => ?_) ?_
  · obtain ⟨j, hj, rfl⟩ := List.mem_map.mp hd
    have hj : j + 1 < es.length := by
      have := List.mem_range.mp hj
      omega
    subst_eqs
    refine w_ixT (d := .int es[j]) (atI_nat (by rw [List.getElem?_map, List.getElem?_eq_getElem (by omega)]; rfl)) ?_
    subst_eqs
    refine w_ixT (d := .int es[j + 1]) ?_ ?_
    · have e : ((j : Int) + 1) = ((j + 1 : Nat) : Int) := by omega
      rw [e]
      exact atI_nat (by rw [List.getElem?_map, List.getElem?_eq_getElem hj]; rfl)
    · refine w_ltI ?_
      rw [decide_eq_true (List.pairwise_iff_getElem.mp h j (j + 1) (by omega) hj (by omega))]
      exact k
  · refine w_allT (fun d hd => ?_) ?_
    · obtain ⟨_, _, rfl⟩ := List.mem_map.mp hd; rfl
    · subst_eqs
      exact q
theorem comma : ("," : Str) = ⟨#[44]⟩ := by decide
theorem dash_shp : (D.str "-").shp = true := (shp_str (by decide +kernel)).shp
theorem ends_ok {es : List Int} (h : ∀ e ∈ es, Nu e) : PyData.strOk (endsT es) = true ∧ (es ≠ [] → (endsT es == "-") = false) ∧ (endsT es).length ≤ 61 * es.length + 1 ∧ ∀ c ∈ (endsT es).cps.toList, 44 ≤ c ∧ c ≤ 57 := by
  have hc : ∀ {es : List Int}, (∀ e ∈ es, Nu e) → ∀ c ∈ (Str.join "," (es.map numS)).cps.toList, 44 ≤ c ∧ c ≤ 57 := by
    intro es
    induction es with
    | nil => intro _ c hc; exact absurd hc (by simp [Str.join, Str.empty])
    | cons e r ih =>
      intro h c hc
      have h1 := num_dig (h e List.mem_cons_self).1
      cases r with
      | nil => have := h1 c hc; omega
      | cons z r =>
        have e1 : (Str.join "," ((e :: z :: r).map numS)).cps.toList = (numS e).cps.toList ++ ([44] ++ (Str.join "," ((z :: r).map numS)).cps.toList) := by
          show (numS e ++ "," ++ Str.join "," ((z :: r).map numS)).cps.toList = _
          rw [app_cps, app_cps, List.append_assoc]
          rfl
        rw [e1] at hc
        rcases List.mem_append.mp hc with hc | hc
        · have := h1 c hc; omega
        · rcases List.mem_append.mp hc with hc | hc
          · have : c = 44 := by simpa using hc
            omega
          · exact ih (fun w hw => h w (List.mem_cons_of_mem _ hw)) c hc
  have hall : ∀ c ∈ (endsT es).cps.toList, 44 ≤ c ∧ c ≤ 57 := by
    unfold endsT
    split
    · intro c hc
      have e45 : ("-" : Str).cps.toList = [45] := by decide
      rw [e45] at hc
      have : c = 45 := by simpa using hc
      omega
    · rw [TL.join_eq]; exact hc h
  refine ⟨?_, fun hne => ?_, ?_, hall⟩
  · unfold PyData.strOk
    rw [Array.all_eq_true_iff_forall_mem]
    intro c hc
    have := hall c (Array.mem_toList_iff.mpr hc)
    exact decide_eq_true (by omega)
  · cases es with
    | nil => exact absurd rfl hne
    | cons e r =>
      rw [beq_eq_false_iff_ne]
      intro z
      have hd : ∃ c t, (endsT (e :: r)).cps.toList = c :: t ∧ 48 ≤ c := by
        unfold endsT
        rw [if_neg (by simp), TL.join_eq]
        have h1 := num_dig (h e List.mem_cons_self).1
        have h2 := (num_len (h e List.mem_cons_self)).1
        rw [len_cps] at h2
        cases hq : (numS e).cps.toList with
        | nil => rw [hq] at h2; simp at h2
        | cons c t =>
          have hc48 : 48 ≤ c := (h1 c (by rw [hq]; exact List.mem_cons_self)).1
          cases r with
          | nil => exact ⟨c, t, hq, hc48⟩
          | cons y r =>
            refine ⟨c, t ++ ((",":Str).cps.toList ++ (Str.join "," ((y :: r).map numS)).cps.toList), ?_, hc48⟩
            show (numS e ++ "," ++ Str.join "," ((y :: r).map numS)).cps.toList = _
            rw [app_cps, app_cps, List.append_assoc, hq]
            rfl
      obtain ⟨c, t, e1, hc⟩ := hd
      rw [z] at e1
      have : ("-" : Str).cps.toList = [45] := by decide
      rw [this] at e1
      simp at e1
      omega
  · unfold endsT
    split
    · show 1 ≤ _; omega
    · rw [TL.join_eq]
      refine Nat.le_trans (PySem.StrLaws.join_length_le "," _) ?_
      have h1 := sum_le (xs := es.map numS) (b := 60) fun x hx => by
        obtain ⟨i, hi, rfl⟩ := List.mem_map.mp hx
        exact (num_len (h i hi)).2
      rw [List.length_map] at h1 ⊢
      have : (",":Str).length = 1 := rfl
      rw [this]
      omega
theorem spec_ends {es : List Int} {Q : D → Sto → Prop} {st : Sto} (hp : es.Pairwise (· < ·)) (h : ∀ e ∈ es, Nu e) (hl : es.length ≤ 8) (q : Q (.tup (es.map D.int)) st) : wp (m_ends_read [.str (endsT es)]) Q st := by
  refine w_run' [.val (.str (endsT es)), .no, .no, .no] rfl ?_
  unfold s_ends_read
  obtain ⟨h1, h2, h3, h4⟩ := ends_ok h
  subst_eqs
  refine w_eq (shp_str h1).shp dash_shp ?_
  rw [eqv_ss]
  by_cases he : es = []
  · subst he
    have : (endsT [] == "-") = true := by decide
    rw [this]
    subst_eqs
    refine ⟨by decide, ?_⟩
    subst_eqs
    exact q
  · rw [h2 he]
    have ee : endsT es = Txt.join "," (es.map numS) := by unfold endsT; rw [if_neg he]
    rw [ee]
    subst_eqs
    refine w_splitJ (s := 44) comma (by decide) (by simpa using he) (fun x hx => ?_) (fun x hx => ?_) (by rw [List.length_map]; omega) ?_
    · obtain ⟨i, hi, rfl⟩ := List.mem_map.mp hx
      exact num_no (h i hi).1 (.inl (by decide))
    · obtain ⟨i, hi, rfl⟩ := List.mem_map.mp hx
      have := (num_len (h i hi)).2; omega
    · subst_eqs
      refine ⟨_, rfl, ?_⟩
      refine lc_map (by simp [wipeE]) (fun _ => .bl true) _ _ (fun d hd R k => ?_) ?_
      · obtain ⟨x, hx, rfl⟩ := List.mem_map.mp hd
        obtain ⟨i, hi, rfl⟩ := List.mem_map.mp hx
        subst_eqs
        exact ⟨rfl, spec_number (h i hi) k⟩
      · refine w_allT (fun d hd => ?_) ?_
        · obtain ⟨_, _, rfl⟩ := List.mem_map.mp hd; rfl
        · subst_eqs
          refine ⟨_, rfl, ?_⟩
          let g : D → D := fun d => match d with
            | .str x => .int ((PySem.intText? x).getD 0)
            | d => d
          refine lc_map (by simp [wipeE]) g _ _ (fun d hd R k => ?_) ?_
          · obtain ⟨x, hx, rfl⟩ := List.mem_map.mp hd
            obtain ⟨i, hi, rfl⟩ := List.mem_map.mp hx
            subst_eqs
            refine w_intT (h i hi) ?_
            have : g (.str (numS i)) = .int i := by show D.int _ = _; rw [int_back (h i hi)]; rfl
            rw [this] at k
            exact k
          · have eg : ((es.map numS).map D.str).map g = es.map D.int := by
              rw [List.map_map, List.map_map]
              refine List.map_congr_left fun i hi => ?_
              show D.int _ = _
              rw [int_back (h i hi)]; rfl
            rw [eg]
            subst_eqs
            refine ⟨rfl, spec_ascends hp (by omega) ?_⟩
            subst_eqs
            exact q
end LK

set_option linter.all false
set_option maxRecDepth 100000
set_option maxHeartbeats 4000000
/-! K65: kinds of words, doings as text. -/
namespace LK
open PySem PySem.Spec L2 PL PG
theorem nm_ok {x : Str} (h : Nm x) : PyData.strOk x = true := lw_ok h.2.2
theorem str_dec {x : Str} (h : PyData.strOk x = true) : (D.str x).shp = true := (shp_str h).shp
theorem kind_opts {w : Str} {os : List Str} {R : D → Sto → Prop} {st : Sto} (hw : PyData.strOk w = true) (ho : ∀ o ∈ os, PyData.strOk o = true) (hm : w ∈ os) (k : R (.bl true) st) : wp (m__is_of_kind [.str w, .tup (os.map D.str)]) R st := by
  refine w_run' [.val (.str w), .val (.tup (os.map D.str))] rfl ?_
  unfold s__is_of_kind
  have hs : (D.tup (os.map D.str)).shp = true := (shp_tup (k := 0) fun d hd => by
    obtain ⟨o, h, rfl⟩ := List.mem_map.mp hd
    exact shp_str (ho o h)).shp
  subst_eqs
  refine w_in rfl (str_dec hw) hs ?_
  have e : ((os.map D.str).any fun z => z.eqv (.str w)) = true := List.any_eq_true.mpr ⟨.str w, List.mem_map_of_mem hm, by rw [eqv_ss]; exact beq_self_eq_true w⟩
  rw [e]
  subst_eqs
  exact k
theorem c_name : PyData.strOk "name" = true := by decide +kernel
theorem c_number : PyData.strOk "number" = true := by decide +kernel
theorem c_ends : PyData.strOk "ends" = true := by decide +kernel
theorem kind_name {w : Str} {R : D → Sto → Prop} {st : Sto} (h : Nm w) (k : R (.bl true) st) : wp (m__is_of_kind [.str w, .str "name"]) R st := by
  refine w_run' [.val (.str w), .val (.str "name")] rfl ?_
  unfold s__is_of_kind
  subst_eqs
  refine w_eq (str_dec c_name) (str_dec c_name) ?_
  rw [eqv_ss, beq_self_eq_true]
  subst_eqs
  refine ⟨rfl, spec_isname h ?_⟩
  subst_eqs
  exact k
theorem kind_number {i : Int} {R : D → Sto → Prop} {st : Sto} (h : Nu i) (k : R (.bl true) st) : wp (m__is_of_kind [.str (numS i), .str "number"]) R st := by
  refine w_run' [.val (.str (numS i)), .val (.str "number")] rfl ?_
  unfold s__is_of_kind
  subst_eqs
  refine w_eq (str_dec c_number) (str_dec c_name) ?_
  rw [eqv_ss, show (("number" : Str) == "name") = false by decide]
  subst_eqs
  refine w_eq (str_dec c_number) (str_dec c_number) ?_
  rw [eqv_ss, beq_self_eq_true]
  subst_eqs
  refine ⟨rfl, spec_number h ?_⟩
  subst_eqs
  exact k
theorem kind_ends {es : List Int} {R : D → Sto → Prop} {st : Sto} (hp : es.Pairwise (· < ·)) (h : ∀ e ∈ es, Nu e) (hl : es.length ≤ 8) (k : R (.bl true) st) : wp (m__is_of_kind [.str (endsT es), .str "ends"]) R st := by
  refine w_run' [.val (.str (endsT es)), .val (.str "ends")] rfl ?_
  unfold s__is_of_kind
  subst_eqs
  refine w_eq (str_dec c_ends) (str_dec c_name) ?_
  rw [eqv_ss, show (("ends" : Str) == "name") = false by decide]
  subst_eqs
  refine w_eq (str_dec c_ends) (str_dec c_number) ?_
  rw [eqv_ss, show (("ends" : Str) == "number") = false by decide]
  subst_eqs
  refine ⟨rfl, spec_ends hp h hl ?_⟩
  subst_eqs
  exact k
/-! ### doings -/
def DoW (ws : List Str) : Prop := (∃ a, Nm a ∧ ws = [("do" : Str), a]) ∨ ∃ w a b, (w = ("put" : Str) ∨ w = ("take" : Str)) ∧ Nm a ∧ Nm b ∧ ws = [w, a, b]
theorem do_words {d : D} (h : Do d) : ∃ ws, DoW ws ∧ d = .tup (ws.map D.str) := by
  rcases h with ⟨a, ⟨x, rfl, hx⟩, rfl⟩ | ⟨w, a, b, hw, ⟨x, rfl, hx⟩, ⟨y, rfl, hy⟩, rfl⟩
  · exact ⟨[("do" : Str), x], .inl ⟨x, hx, rfl⟩, rfl⟩
  · exact ⟨[w, x, y], .inr ⟨w, x, y, hw, hx, hy, rfl⟩, rfl⟩
theorem put_nm : Nm "put" := nm_dec (by decide)
theorem take_nm : Nm "take" := nm_dec (by decide)
theorem do_nm : Nm "do" := nm_dec (by decide)
theorem dow_nm {ws : List Str} (h : DoW ws) : (∀ w ∈ ws, Nm w) ∧ 2 ≤ ws.length ∧ ws.length ≤ 3 := by
  rcases h with ⟨a, ha, rfl⟩ | ⟨w, a, b, hw, ha, hb, rfl⟩
  · refine ⟨fun w hw => ?_, Nat.le_refl 2, by show 2 ≤ 3; decide⟩
    simp only [List.mem_cons, List.not_mem_nil, or_false] at hw
    rcases hw with rfl | rfl
    · exact do_nm
    · exact ha
  · refine ⟨fun x hx => ?_, by show 2 ≤ 3; decide, by show 3 ≤ 3; decide⟩
    simp only [List.mem_cons, List.not_mem_nil, or_false] at hx
    rcases hx with rfl | rfl | rfl
    · rcases hw with rfl | rfl
      · exact put_nm
      · exact take_nm
    · exact ha
    · exact hb
theorem lw_no {x : Str} {s : Nat} (h : Lw x) (hs : s < 97 ∨ 122 < s) : s ∉ x.cps.toList := fun hm => by
  have := h s hm
  unfold Sg at this
  omega
theorem spec_dtext {ws : List Str} {Q : D → Sto → Prop} {st : Sto} (h : DoW ws) (q : Q (.str (Txt.join " " ws)) st) : wp (m_doing_text [.tup (ws.map D.str)]) Q st := by
  refine w_run' [.val (.tup (ws.map D.str))] rfl ?_
  unfold s_doing_text
  obtain ⟨h1, h2, h3⟩ := dow_nm h
  subst_eqs
  refine w_joinT (fun x hx => by have := (h1 x hx).2.1; omega) (by omega) (Nat.le_refl 1) ?_
  subst_eqs
  exact q
theorem spec_words {ws : List Str} {Q : D → Sto → Prop} {st : Sto} (h : DoW ws) (q : Q (.str (Txt.join " " ws)) st) : wp (m__law_words [.tup (ws.map D.str)]) Q st := by
  refine w_run' [.val (.tup (ws.map D.str))] rfl ?_
  unfold s__law_words
  obtain ⟨h1, h2, h3⟩ := dow_nm h
  subst_eqs
  refine w_joinT (fun x hx => by have := (h1 x hx).2.1; omega) (by omega) (Nat.le_refl 1) ?_
  subst_eqs
  exact q
theorem space : (" " : Str) = ⟨#[32]⟩ := by decide
def doK (ws : List Str) : List D := if ws.length = 2 then [.tup [.str "do"], .str "name"] else [.tup [.str "put", .str "take"], .str "name", .str "name"]
theorem spec_dkinds {ws rest : List Str} {Q : D → Sto → Prop} {st : Sto} (h : DoW ws) (q : Q (.tup (doK ws)) st) : wp (m_doing_kinds [.lst ((ws ++ rest).map D.str)]) Q st := by
  refine w_run' [.val (.lst ((ws ++ rest).map D.str))] rfl ?_
  unfold s_doing_kinds
  have first : ∀ {a : Str} {r : List Str}, ws = a :: r → atI ((ws ++ rest).map D.str) 0 = some (.str a) := fun e => by
    rw [e]; exact atI_nat (j := 0) rfl
  have hl : 0 < ((ws ++ rest).map D.str).length := by
    have := (dow_nm h).2.1
    simp only [List.length_map, List.length_append]; omega
  subst_eqs
  refine k_if (fun _ => ?_) fun e => absurd (of_decide_eq_false e) (by omega)
  rcases h with ⟨a, ha, e⟩ | ⟨w, a, b, hw, ha, hb, e⟩
  · subst_eqs
    refine w_ixL (first e) ?_
    subst_eqs
    refine w_eq (str_dec (nm_ok do_nm)) (str_dec (nm_ok do_nm)) ?_
    rw [eqv_ss, beq_self_eq_true]
    subst_eqs
    refine ⟨by show 1 ≤ sizeLine; decide, ?_⟩
    subst_eqs
    refine ⟨by show 2 ≤ sizeLine; decide, ?_⟩
    subst_eqs
    have : doK ws = [.tup [.str "do"], .str "name"] := by unfold doK; rw [e]; rfl
    rw [this] at q
    exact q
  · subst_eqs
    refine w_ixL (first e) ?_
    subst_eqs
    have hwn : Nm w := by rcases hw with rfl | rfl; exact put_nm; exact take_nm
    refine w_eq (str_dec (nm_ok hwn)) (str_dec (nm_ok do_nm)) ?_
    have : (w == ("do" : Str)) = false := by rcases hw with rfl | rfl <;> decide
    rw [eqv_ss, this]
    subst_eqs
    refine ⟨by show 2 ≤ sizeLine; decide, ?_⟩
    subst_eqs
    refine ⟨by show 3 ≤ sizeLine; decide, ?_⟩
    subst_eqs
    have : doK ws = [.tup [.str "put", .str "take"], .str "name", .str "name"] := by unfold doK; rw [e]; rfl
    rw [this] at q
    exact q
/-- each word of a doing is of its kind -/
theorem do_kinds {ws : List Str} (h : DoW ws) : ws.length = (doK ws).length ∧ ∀ (m : Nat) (w : Str) (kd : D), ws[m]? = some w → (doK ws)[m]? = some kd → ∀ (R : D → Sto → Prop) (st : Sto), R (.bl true) st → wp (m__is_of_kind [.str w, kd]) R st := by
  rcases h with ⟨a, ha, rfl⟩ | ⟨w, a, b, hw, ha, hb, rfl⟩
  · refine ⟨rfl, fun m w kd h1 h2 R st k => ?_⟩
    match m, h1, h2 with
    | 0, h1, h2 => cases h1; cases h2; exact kind_opts (os := [("do" : Str)]) (nm_ok do_nm) (by decide +kernel) (by simp) k
    | 1, h1, h2 => cases h1; cases h2; exact kind_name ha k
    | m + 2, h1, h2 => simp at h1
  · refine ⟨rfl, fun m w' kd h1 h2 R st k => ?_⟩
    have hwn : Nm w := by rcases hw with rfl | rfl; exact put_nm; exact take_nm
    match m, h1, h2 with
    | 0, h1, h2 => cases h1; cases h2; exact kind_opts (os := [("put" : Str), ("take" : Str)]) (nm_ok hwn) (by decide +kernel) (by rcases hw with rfl | rfl <;> simp) k
    | 1, h1, h2 => cases h1; cases h2; exact kind_name ha k
    | 2, h1, h2 => cases h1; cases h2; exact kind_name hb k
    | m + 3, h1, h2 => simp at h1
theorem spec_dread {ws : List Str} {Q : D → Sto → Prop} {st : Sto} (h : DoW ws) (q : Q (.tup (ws.map D.str)) st) : wp (m_doing_read [.str (Txt.join " " ws), .int 0, .int 0]) Q st := by
  refine w_run' [.val (.str (Txt.join " " ws)), .val (.int 0), .val (.int 0), .no] rfl ?_
  unfold s_doing_read
  obtain ⟨h1, h2, h3⟩ := dow_nm h
  obtain ⟨k1, k2⟩ := do_kinds h
  subst_eqs
  refine w_splitJ (s := 32) space (by decide) (fun e => by rw [e] at h2; simp at h2) (fun x hx => lw_no (h1 x hx).2.2 (.inl (by decide))) (fun x hx => by have := (h1 x hx).2.1; omega) (by omega) ?_
  subst_eqs
  refine ⟨rfl, ?_⟩
  have := spec_dkinds (rest := []) (st := st) (Q := fun d s => d = .tup (doK ws) ∧ s = st) h ⟨rfl, rfl⟩
  rw [List.append_nil] at this
  refine wp_mono this fun d s ⟨e1, e2⟩ => ?_
  subst e1 e2
  subst_eqs
  refine ⟨rfl, spec_check k1 (by omega) (fun m w kd a b R k => k2 m w kd a b R _ k) ?_⟩
  subst_eqs
  exact q
end LK

set_option linter.all false
set_option maxRecDepth 100000
set_option maxHeartbeats 4000000
/-! K66: a doing is right; the lines of a program. -/
namespace LK
open PySem PySem.Spec L2 PL PG
theorem w_callD {n : Nat} {dds : List D} {sem : List D → M D} {ga : En → M (List D)} {ρ : En} {R : D → Sto → Prop} {st : Sto} (k : wp (ga ρ) (fun ds s => (ds ++ dds).length = n ∧ wp (sem (ds ++ dds)) R s) st) : wp (eCallD n dds sem ga ρ) R st := by
  unfold eCallD
  refine w_call ?_
  show wp ((ga ρ).bind fun ds => M.pure (ds ++ dds)) _ st
  rw [wp_bind]
  simp only [wp_pure]
  exact k
theorem ok_app {x y : Str} (hx : PyData.strOk x = true) (hy : PyData.strOk y = true) : PyData.strOk (x ++ y) = true := by
  unfold PyData.strOk at *
  rw [Array.all_eq_true_iff_forall_mem] at *
  intro c hc
  rcases Array.mem_append.mp (show c ∈ x.cps ++ y.cps from hc) with h | h
  · exact hx c h
  · exact hy c h
theorem ok_join {y : Str} (hy : PyData.strOk y = true) : ∀ {xs : List Str}, (∀ x ∈ xs, PyData.strOk x = true) → PyData.strOk (Txt.join y xs) = true := by
  intro xs h
  rw [TL.join_eq]
  induction xs with
  | nil =>
    show PyData.strOk Str.empty = true
    decide +kernel
  | cons x r ih =>
    cases r with
    | nil => exact h x List.mem_cons_self
    | cons z r => exact ok_app (ok_app (h x List.mem_cons_self) hy) (ih fun w hw => h w (List.mem_cons_of_mem _ hw))
theorem sp_ok : PyData.strOk " " = true := by decide +kernel
theorem nl_ok : PyData.strOk "\n" = true := by decide +kernel
theorem dow_ok {ws : List Str} (h : DoW ws) : ∀ w ∈ ws, PyData.strOk w = true := fun w hw => nm_ok ((dow_nm h).1 w hw)
theorem same_str {x : Str} {Q : D → Sto → Prop} {st : Sto} (h : PyData.strOk x = true) (q : Q (.bl true) st) : wp (m__law_same 10 [.str x, .str x]) Q st := spec_same 9 (.str x) st Q (by simpa [Fla] using h) q
theorem fla_do {ws : List Str} (h : DoW ws) (n : Nat) : Fla (n + 1) (.tup (ws.map D.str)) := by
  refine ⟨by have := (dow_nm h).2.2; rw [List.length_map]; omega, fun d hd => ?_⟩
  obtain ⟨w, hw, rfl⟩ := List.mem_map.mp hd
  have := dow_ok h w hw
  simpa [Fla] using this
theorem spec_doright {ws : List Str} {Q : D → Sto → Prop} {st : Sto} (h : DoW ws) (q : Q (.bl true) st) : wp (m__law_doing_right [.tup (ws.map D.str)]) Q st := by
  refine w_run' [.val (.tup (ws.map D.str)), .no, .no] rfl ?_
  unfold s__law_doing_right
  have hT : PyData.strOk (Txt.join " " ws) = true := ok_join sp_ok (dow_ok h)
  subst_eqs
  refine ⟨rfl, spec_dtext h ?_⟩
  subst_eqs
  refine ⟨rfl, spec_words h ?_⟩
  subst_eqs
  refine ⟨rfl, same_str hT ?_⟩
  subst_eqs
  refine w_callD ?_
  subst_eqs
  refine ⟨rfl, spec_dread h ?_⟩
  subst_eqs
  refine ⟨rfl, spec_same 9 _ st _ (fla_do h 8) ?_⟩
  subst_eqs
  refine w_callD ?_
  subst_eqs
  refine ⟨rfl, spec_dread h ?_⟩
  subst_eqs
  refine ⟨rfl, spec_dtext h ?_⟩
  subst_eqs
  refine ⟨rfl, same_str hT ?_⟩
  subst_eqs
  exact q
/-! ### the lines -/
/-- a party as data: its name, its ends, its arrows -/
structure Pty where
  nm : Str
  es : List Int
  as : List (Int × List Str × Int)
def arD (a : Int × List Str × Int) : D := .tup [.int a.1, .tup (a.2.1.map D.str), .int a.2.2]
def paD (p : Pty) : D := .tup [.str p.nm, .tup (p.es.map D.int), .tup (p.as.map arD)]
def chD (c : List Str) : D := .tup (c.map D.str)
structure ArOk (a : Int × List Str × Int) : Prop where
  p : Nu a.1
  d : DoW a.2.1
  l : Nu a.2.2
structure PaOk (p : Pty) : Prop where
  n : Nm p.nm
  r : p.es.Pairwise (· < ·)
  e : ∀ e ∈ p.es, Nu e
  el : p.es.length ≤ 8
  a : ∀ a ∈ p.as, ArOk a
  al : p.as.length ≤ 20
def ChOk (c : List Str) : Prop := ∃ x y z f, c = [x, y, z, f] ∧ Nm x ∧ Nm y ∧ Nm z ∧ (f = ("queue" : Str) ∨ f = ("bag" : Str) ∨ f = ("call" : Str))
theorem ar_data {d : D} (h : Ar d) : ∃ a, ArOk a ∧ d = arD a := by
  obtain ⟨p, g, l, ⟨i, rfl, hi⟩, hg, ⟨j, rfl, hj⟩, rfl⟩ := h
  obtain ⟨ws, hw, rfl⟩ := do_words hg
  exact ⟨(i, ws, j), ⟨hi, hw, hj⟩, rfl⟩
theorem list_data {α : Type} {P : D → Prop} {O : α → Prop} {f : α → D} (h : ∀ d, P d → ∃ a, O a ∧ d = f a) : ∀ {ds : List D}, (∀ d ∈ ds, P d) → ∃ xs : List α, (∀ x ∈ xs, O x) ∧ ds = xs.map f ∧ xs.length = ds.length
  | [], _ => ⟨[], fun _ h => absurd h List.not_mem_nil, rfl, rfl⟩
  | d :: ds, hd => by
    obtain ⟨a, ha, rfl⟩ := h d (hd d List.mem_cons_self)
    obtain ⟨xs, hx, e, hl⟩ := list_data h fun z hz => hd z (List.mem_cons_of_mem _ hz)
    refine ⟨a :: xs, fun x hx' => ?_, by rw [e]; rfl, by simp [hl]⟩
    rcases List.mem_cons.mp hx' with e | e
    · rw [e]; exact ha
    · exact hx x e
theorem pa_data {d : D} (h : Pa d) : ∃ p, PaOk p ∧ d = paD p := by
  obtain ⟨a, es, as, ⟨x, rfl, hx⟩, h1, h2, h3, h4, h5, rfl⟩ := h
  obtain ⟨xs, hxs, rfl, hl⟩ := list_data (fun d => ar_data) h4
  exact ⟨⟨x, es, xs⟩, ⟨hx, h1, h2, h3, hxs, by show xs.length ≤ 20; omega⟩, rfl⟩
theorem ch_data {d : D} (h : Ch d) : ∃ c, ChOk c ∧ d = chD c := by
  obtain ⟨a, b, c, f, ⟨x, rfl, hx⟩, ⟨y, rfl, hy⟩, ⟨z, rfl, hz⟩, hf, rfl⟩ := h
  exact ⟨[x, y, z, f], ⟨x, y, z, f, rfl, hx, hy, hz, hf⟩, rfl⟩
/-- the words of the lines -/
def chL (c : List Str) : List Str := ("channel" : Str) :: c
def paL (p : Pty) : List Str := [("party" : Str), p.nm, endsT p.es]
def arL (n : Str) (a : Int × List Str × Int) : List Str := [("arrow" : Str), n, numS a.1] ++ a.2.1 ++ [numS a.2.2]
def line (ws : List Str) : Str := Txt.join " " ws
def ptyLines (p : Pty) : List Str := line (paL p) :: p.as.map fun a => line (arL p.nm a)
def linesOf (ps : List Pty) (cs : List (List Str)) : List Str := cs.map (fun c => line (chL c)) ++ ps.flatMap ptyLines
end LK

set_option linter.all false
set_option maxRecDepth 100000
set_option maxHeartbeats 4000000
/-! K67: the law's lines. -/
namespace LK
open PySem PySem.Spec L2 PL PG
theorem line_ch {c : List Str} (h : ChOk c) : ("channel " : Str) ++ Txt.join " " c = line (chL c) := by
  obtain ⟨x, y, z, f, rfl, _⟩ := h
  unfold line chL
  rw [TL.join_eq, TL.join_eq]
  show ("channel " : Str) ++ Str.join " " [x, y, z, f] = "channel" ++ " " ++ Str.join " " [x, y, z, f]
  rw [show ("channel" : Str) ++ " " = "channel " by decide]
theorem cps_ext {x y : Str} (h : x.cps.toList = y.cps.toList) : x = y := by
  cases x; cases y
  exact congrArg Str.mk (Array.toList_inj.mp h)
theorem line_pa (p : Pty) : ("party " : Str) ++ p.nm ++ " " ++ endsT p.es = line (paL p) := by
  unfold line paL
  rw [TL.join_eq]
  show ("party " : Str) ++ p.nm ++ " " ++ endsT p.es = "party" ++ " " ++ (p.nm ++ " " ++ endsT p.es)
  rw [show ("party" : Str) ++ " " = "party " by decide]
  apply cps_ext
  simp only [app_cps, List.append_assoc]
theorem chan_len : ("channel " : Str).length = 8 := by decide
theorem party_len : ("party " : Str).length = 6 := by decide
theorem one_sp : (" " : Str).length = 1 := rfl
theorem fo_len {f : Str} (h : f = ("queue" : Str) ∨ f = ("bag" : Str) ∨ f = ("call" : Str)) : f.length ≤ 5 := by
  rcases h with rfl | rfl | rfl <;> decide
theorem ch_short {c : List Str} (h : ChOk c) : (∀ x ∈ c, x.length ≤ 700) ∧ c.length ≤ 300 := by
  obtain ⟨x, y, z, f, rfl, hx, hy, hz, hf⟩ := h
  refine ⟨fun w hw => ?_, by show 4 ≤ 300; decide⟩
  simp only [List.mem_cons, List.not_mem_nil, or_false] at hw
  rcases hw with rfl | rfl | rfl | rfl
  · have := hx.2.1; omega
  · have := hy.2.1; omega
  · have := hz.2.1; omega
  · have := fo_len hf; omega
/-- ','.join([str(e) for e in es]), or '-' -/
theorem w_strI {i : Int} {R : D → Sto → Prop} {st : Sto} (h : Nu i) (k : R (.str (numS i)) st) : wp (strM (.int i)) R st := by
  show wp (guardM _ _) R st
  rw [wp_guard]
  refine ⟨decide_eq_true ?_, ⟨k⟩⟩
  have h1 := h.1
  have h2 := h.2
  have h3 : i.natAbs < 2 ^ 200 := by
    have e : (2 : Nat) ^ 200 = 1606938044258990275541962092341162602522202993782792835301376 := by decide
    rw [e]; omega
  by_cases h0 : i.natAbs = 0
  · rw [h0]; decide
  · have := (Nat.log2_lt h0).mpr h3
    omega
theorem line_ar (n : Str) (a : Int × List Str × Int) (h : DoW a.2.1) : Txt.join " " [("arrow" : Str), n, numS a.1, Txt.join " " a.2.1, numS a.2.2] = line (arL n a) := by
  unfold line arL
  rcases h with ⟨x, _, e⟩ | ⟨w, x, y, _, _, _, e⟩
  · rw [e]
    simp only [TL.join_eq]
    apply cps_ext
    simp only [Str.join, List.cons_append, List.nil_append, app_cps, List.append_assoc]
  · rw [e]
    simp only [TL.join_eq]
    apply cps_ext
    simp only [Str.join, List.cons_append, List.nil_append, app_cps, List.append_assoc]
theorem dow_len {ws : List Str} (h : DoW ws) : (Txt.join " " ws).length ≤ 30 := by
  obtain ⟨h1, h2, h3⟩ := dow_nm h
  rw [TL.join_eq]
  refine Nat.le_trans (PySem.StrLaws.join_length_le " " ws) ?_
  have := sum_le (xs := ws) (b := 8) fun x hx => (h1 x hx).2.1
  rw [one_sp]; omega
end LK

set_option linter.all false
set_option maxRecDepth 100000
set_option maxHeartbeats 4000000
/-! K68: the law's lines are the lines. -/
namespace LK
open PySem PySem.Spec L2 PL PG
theorem lines_step {ps : List Pty} {cs : List (List Str)} {m : Nat} {p : Pty} (h : ps[m]? = some p) : linesOf (ps.take (m + 1)) cs = linesOf (ps.take m) cs ++ ptyLines p := by
  unfold linesOf
  rw [List.take_add_one, h, List.flatMap_append, List.append_assoc]
  simp
theorem lines_len {cs : List (List Str)} : ∀ {ps : List Pty}, (∀ p ∈ ps, PaOk p) → (linesOf ps cs).length ≤ cs.length + 21 * ps.length := by
  intro ps
  induction ps with
  | nil => intro _; simp [linesOf]
  | cons p r ih =>
    intro h
    have h1 := ih fun q hq => h q (List.mem_cons_of_mem _ hq)
    have h2 := (h p List.mem_cons_self).al
    have e : (linesOf (p :: r) cs).length = (linesOf r cs).length + (ptyLines p).length := by
      unfold linesOf
      simp only [List.flatMap_cons, List.length_append]
      omega
    rw [e, List.length_cons]
    have : (ptyLines p).length = p.as.length + 1 := by unfold ptyLines; simp
    omega
theorem map_app {a b : List Str} : (a ++ b).map D.str = a.map D.str ++ b.map D.str := List.map_append
theorem spec_lines {ps : List Pty} {cs : List (List Str)} {Q : D → Sto → Prop} {st : Sto} (hp : ∀ p ∈ ps, PaOk p) (hc : ∀ c ∈ cs, ChOk c) (hpl : ps.length ≤ 8) (hcl : cs.length ≤ 20) (q : Q (.lst ((linesOf ps cs).map D.str)) st) :
    wp (m__law_lines [.tup (ps.map paD), .tup (cs.map chD)]) Q st := by
  refine w_run' [.val (.tup (ps.map paD)), .val (.tup (cs.map chD)), .no, .no, .no, .no, .no, .no, .no, .no, .no, .no] rfl ?_
  unfold s__law_lines
  subst_eqs
  refine ⟨_, rfl, ?_⟩
  let g : D → D := fun d => match d with
    | .tup ws => .str (line (("channel" : Str) :: (strsD ws).getD []))
    | d => d
  have gch : ∀ c, g (chD c) = .str (line (chL c)) := fun c => by show D.str (line (_ :: (strsD (c.map D.str)).getD [])) = _; rw [strs_map]; rfl
  refine lc_map (by simp [wipeE]) g _ _ (fun d hd R k => ?_) ?_
  · obtain ⟨c, hcm, rfl⟩ := List.mem_map.mp hd
    obtain ⟨b1, b2⟩ := ch_short (hc c hcm)
    have hj := join_len (y := " ") b1 b2 (Nat.le_refl 1)
    subst_eqs
    refine w_joinT b1 b2 (Nat.le_refl 1) ?_
    refine w_addS (small (by rw [chan_len]; omega)) ?_
    rw [gch] at k
    rw [line_ch (hc c hcm)]
    exact k
  · have e0 : (cs.map chD).map g = (linesOf (ps.take 0) cs).map D.str := by
      rw [List.map_map]
      unfold linesOf
      rw [List.take_zero, List.flatMap_nil, List.append_nil, List.map_map]
      exact List.map_congr_left fun c _ => gch c
    rw [e0]
    subst_eqs
    refine ⟨_, rfl, ?_⟩
    refine for_each (fun j ρ s => ∃ x3 x4 x5 x6 x7 x8 x9 x10 x11, ρ = [.val (.tup (ps.map paD)), .val (.tup (cs.map chD)), .own ((linesOf (ps.take j) cs).map D.str), x3, x4, x5, x6, x7, x8, x9, x10, x11] ∧ s = st) _ 0 _ _ ?_ ?_ ?_
    · rintro m d ρ s hm ⟨x3, x4, x5, x6, x7, x8, x9, x10, x11, rfl, rfl⟩
      rw [List.getElem?_map] at hm
      cases hpm : ps[m]? with
      | none => rw [hpm] at hm; cases hm
      | some p =>
        rw [hpm] at hm
        cases hm
        have ok := hp p (List.mem_of_getElem? hpm)
        rw [Nat.zero_add, lines_step hpm]
        have hlen : (linesOf (ps.take m) cs).length ≤ 188 := by
          have h1 := lines_len (cs := cs) (ps := ps.take m) fun q hq => hp q (List.mem_of_mem_take hq)
          have h2 : (ps.take m).length ≤ 8 := by rw [List.length_take]; omega
          omega
        refine ⟨[.val (.tup (ps.map paD)), .val (.tup (cs.map chD)), .own ((linesOf (ps.take m) cs).map D.str), x3, .val (.str p.nm), .val (.tup (p.es.map D.int)), .val (.tup (p.as.map arD)), x7, x8, x9, x10, x11], by simp [Pt.set, setAll, paD], ?_⟩
        have hn := ok.n.2.1
        obtain ⟨k1, k2, k3, k4⟩ := ends_ok ok.e
        have hel := ok.el
        subst_eqs
        refine w_addS (small (by rw [party_len]; omega)) ?_
        subst_eqs
        refine w_addS (small (by rw [len_app, party_len, one_sp]; omega)) ?_
        refine wp_mono (Q := fun y s' => y = .str (endsT p.es) ∧ s' = s) ?_ fun y s' ⟨e1, e2⟩ => ?_
        · have shE : (D.tup (p.es.map D.int)).shp = true := (shp_tup (k := 0) fun d hd => by
            obtain ⟨i, _, rfl⟩ := List.mem_map.mp hd
            exact shp_int).shp
          subst_eqs
          refine ⟨by decide, w_ne shE (by decide) ?_⟩
          rw [eqv_tt, eqvL_nil]
          by_cases he : p.es = []
          · rw [he]
            show BlK _ (.bl (!true)) s
            subst_eqs
            exact ⟨rfl, rfl⟩
          · have e2 : (p.es.map D.int).isEmpty = false := by
              cases hq : p.es with
              | nil => exact absurd hq he
              | cons _ _ => rfl
            rw [e2]
            subst_eqs
            refine ⟨_, rfl, ?_⟩
            let g2 : D → D := fun d => match d with
              | .int i => .str (numS i)
              | d => d
            refine lc_map (by simp [wipeE]) g2 _ _ (fun d hd R k => ?_) ?_
            · obtain ⟨i, hi, rfl⟩ := List.mem_map.mp hd
              subst_eqs
              exact w_strI (ok.e i hi) k
            · have eg : (p.es.map D.int).map g2 = (p.es.map numS).map D.str := by rw [List.map_map, List.map_map]; rfl
              rw [eg]
              subst_eqs
              refine w_joinL (fun x hx => ?_) (by rw [List.length_map]; omega) (Nat.le_refl 1) ?_
              · obtain ⟨i, hi, rfl⟩ := List.mem_map.mp hx
                have := (num_len (ok.e i hi)).2; omega
              · unfold endsT
                rw [if_neg he]
                exact ⟨rfl, rfl⟩
        · subst e1 e2
          refine w_addS (small (by rw [len_app, len_app, party_len, one_sp]; omega)) ?_
          refine ⟨small (by rw [List.length_map]; omega), ?_⟩
          rw [line_pa]
          refine k_seq (w_for ?_)
          subst_eqs
          refine ⟨_, rfl, ?_⟩
          have oal := ok.al
          refine for_each (fun j ρ t => ∃ x7 x8 x9 x10 x11, ρ = [.val (.tup (ps.map paD)), .val (.tup (cs.map chD)), .own ((linesOf (ps.take m) cs ++ (line (paL p) :: (p.as.take j).map fun a => line (arL p.nm a))).map D.str), x3, .val (.str p.nm), .val (.tup (p.es.map D.int)), .val (.tup (p.as.map arD)), x7, x8, x9, x10, x11] ∧ t = s') _ 0 _ _ ?_ ?_ ?_
          · rintro k d ρ t hk ⟨y7, y8, y9, y10, y11, rfl, rfl⟩
            rw [List.getElem?_map] at hk
            cases hak : p.as[k]? with
            | none => rw [hak] at hk; cases hk
            | some a =>
              rw [hak] at hk
              cases hk
              have oka := ok.a a (List.mem_of_getElem? hak)
              rw [Nat.zero_add]
              refine ⟨[.val (.tup (ps.map paD)), .val (.tup (cs.map chD)), .own ((linesOf (ps.take m) cs ++ (line (paL p) :: (p.as.take k).map fun a => line (arL p.nm a))).map D.str), x3, .val (.str p.nm), .val (.tup (p.es.map D.int)), .val (.tup (p.as.map arD)), y7, .val (.int a.1), .val (.tup (a.2.1.map D.str)), .val (.int a.2.2), y11], by simp [Pt.set, setAll, arD], ?_⟩
              subst_eqs
              refine w_strI oka.p ?_
              subst_eqs
              refine ⟨rfl, spec_words oka.d ?_⟩
              subst_eqs
              refine w_strI oka.l ?_
              subst_eqs
              refine ⟨by show 5 ≤ sizeLine; decide, ?_⟩
              subst_eqs
              refine w_joinL (xs := [("arrow" : Str), p.nm, numS a.1, Txt.join " " a.2.1, numS a.2.2]) (fun x hx => ?_) (by show 5 ≤ 300; decide) (Nat.le_refl 1) ?_
              · have h1 := (num_len oka.p).2
                have h2 := (num_len oka.l).2
                have h3 := dow_len oka.d
                simp only [List.mem_cons, List.not_mem_nil, or_false] at hx
                rcases hx with rfl | rfl | rfl | rfl | rfl
                · decide
                · omega
                · omega
                · omega
                · omega
              · rw [line_ar _ _ oka.d]
                have ha : k < p.as.length := (List.getElem?_eq_some_iff.mp hak).1
                have eo : (linesOf (ps.take m) cs ++ (line (paL p) :: (p.as.take k).map fun a => line (arL p.nm a))).map D.str ++ [.str (line (arL p.nm a))] = (linesOf (ps.take m) cs ++ (line (paL p) :: (p.as.take (k + 1)).map fun a => line (arL p.nm a))).map D.str := by
                  rw [List.take_add_one, hak]
                  simp
                refine ⟨small (by simp only [List.length_map, List.length_append, List.length_cons, List.length_take]; omega), rfl, y7, .val (.int a.1), .val (.tup (a.2.1.map D.str)), .val (.int a.2.2), .val (.lst [.str "arrow", .str p.nm, .str (numS a.1), .str (Txt.join " " a.2.1), .str (numS a.2.2)]), ?_, rfl⟩
                rw [← eo]
                rfl
          · exact ⟨x7, x8, x9, x10, x11, by simp, rfl⟩
          · rintro ρ t ⟨y7, y8, y9, y10, y11, rfl, rfl⟩
            rw [List.length_map, Nat.zero_add, List.take_length]
            exact ⟨rfl, _, _, _, _, _, _, _, _, _, rfl, rfl⟩
    · exact ⟨_, _, _, _, _, _, _, _, _, rfl, rfl⟩
    · rintro ρ s ⟨x3, x4, x5, x6, x7, x8, x9, x10, x11, rfl, rfl⟩
      subst_eqs
      rw [List.length_map, Nat.zero_add, List.take_length]
      exact q
end LK

set_option linter.all false
set_option maxRecDepth 100000
set_option maxHeartbeats 4000000
/-! K69: program_text. -/
namespace LK
open PySem PySem.Spec L2 PL PG
section
variable {S : Str → Sto → Prop} {R : D → Sto → Prop} {st : Sto} {ρ : En} {f : En → M D} {fs : List (En → M D)} {acc : Str}
theorem w_fj (k : wp (fjM fs Str.empty ρ) (fun s t => R (.str s) t) st) : wp (eFj fs ρ) R st := by
  unfold eFj
  rw [wp_bind]
  simp only [wp_pure]
  exact k
theorem w_fjn (k : S acc st) : wp (fjM [] acc ρ) S st := ⟨k⟩
theorem w_fjc (k : wp (f ρ) (StrK fun y s => (acc ++ y).length ≤ sizeLine ∧ wp (fjM fs (acc ++ y) ρ) S s) st) : wp (fjM (f :: fs) acc ρ) S st := by
  unfold fjM
  rw [wp_bind]
  refine wp_mono k fun d s k => ?_
  cases d with
  | str y =>
    obtain ⟨h1, h2⟩ := k
    show wp ((PL.line (acc ++ y).length).bind fun _ => fjM fs (acc ++ y) ρ) S s
    rw [wp_bind, wp_line]
    exact ⟨h1, h2⟩
  | _ => exact False.elim k
theorem w_fmtS {y : Str} (h : y.length ≤ sizeLine) (k : R (.str y) st) : wp (fmtM (.str y)) R st := by
  show wp ((PL.line y.length).bind fun _ => M.pure (.str y)) R st
  rw [wp_bind, wp_line, wp_pure]
  exact ⟨h, k⟩
theorem w_fmtI {i : Int} (h : Nu i) (k : R (.str (numS i)) st) : wp (fmtM (.int i)) R st := w_strI h k
end
theorem spec_etext {es : List Int} {Q : D → Sto → Prop} {st : Sto} (h : ∀ e ∈ es, Nu e) (hl : es.length ≤ 8) (q : Q (.str (endsT es)) st) : wp (m__ends_text [.tup (es.map D.int)]) Q st := by
  refine w_run' [.val (.tup (es.map D.int)), .no] rfl ?_
  unfold s__ends_text
  subst_eqs
  refine w_eq shp_int.shp shp_int.shp ?_
  rw [eqv_ii, List.length_map]
  by_cases he : es = []
  · subst he
    show BlK _ (.bl true) st
    subst_eqs
    exact q
  · have e0 : ((es.length : Int) == 0) = false := by
      rw [beq_eq_false_iff_ne]
      intro z
      exact he (List.eq_nil_of_length_eq_zero (by omega))
    rw [e0]
    subst_eqs
    refine ⟨_, rfl, ?_⟩
    let g2 : D → D := fun d => match d with
      | .int i => .str (numS i)
      | d => d
    refine lc_map (by simp [wipeE]) g2 _ _ (fun d hd R k => ?_) ?_
    · obtain ⟨i, hi, rfl⟩ := List.mem_map.mp hd
      subst_eqs
      exact w_strI (h i hi) k
    · have eg : (es.map D.int).map g2 = (es.map numS).map D.str := by rw [List.map_map, List.map_map]; rfl
      rw [eg]
      subst_eqs
      refine w_joinL (fun x hx => ?_) (by rw [List.length_map]; omega) (Nat.le_refl 1) ?_
      · obtain ⟨i, hi, rfl⟩ := List.mem_map.mp hx
        have := (num_len (h i hi)).2; omega
      · subst_eqs
        unfold endsT at q
        rw [if_neg he] at q
        exact q
theorem fj_pa (p : Pty) : Str.empty ++ "party " ++ p.nm ++ " " ++ endsT p.es = line (paL p) := by
  rw [← line_pa]
  apply cps_ext
  simp only [app_cps, List.append_assoc]
  rfl
theorem fj_ar (n : Str) (a : Int × List Str × Int) (h : DoW a.2.1) : Str.empty ++ "arrow " ++ n ++ " " ++ numS a.1 ++ " " ++ Txt.join " " a.2.1 ++ " " ++ numS a.2.2 = line (arL n a) := by
  rw [← line_ar n a h, TL.join_eq " " [("arrow" : Str), n, numS a.1, Txt.join " " a.2.1, numS a.2.2]]
  show Str.empty ++ "arrow " ++ n ++ " " ++ numS a.1 ++ " " ++ Txt.join " " a.2.1 ++ " " ++ numS a.2.2 = "arrow" ++ " " ++ (n ++ " " ++ (numS a.1 ++ " " ++ (Txt.join " " a.2.1 ++ " " ++ numS a.2.2)))
  rw [show ("arrow" : Str) ++ " " = "arrow " by decide]
  apply cps_ext
  simp only [app_cps, List.append_assoc]
  rfl
theorem arrow_len : ("arrow " : Str).length = 6 := by decide
theorem e_len : Str.empty.length = 0 := rfl
theorem pa_len {p : Pty} (h : PaOk p) : (line (paL p)).length ≤ 510 := by
  obtain ⟨k1, k2, k3, k4⟩ := ends_ok h.e
  have h1 := h.n.2.1
  have h2 := h.el
  rw [← line_pa, len_app, len_app, len_app, party_len, one_sp]
  omega
theorem ar_len {n : Str} {a : Int × List Str × Int} (hn : Nm n) (h : ArOk a) : (line (arL n a)).length ≤ 200 := by
  have h1 := (num_len h.p).2
  have h2 := (num_len h.l).2
  have h3 := dow_len h.d
  have h4 := hn.2.1
  rw [← fj_ar n a h.d]
  simp only [len_app, arrow_len, one_sp, e_len]
  omega
theorem ch_len {c : List Str} (h : ChOk c) : (line (chL c)).length ≤ 100 := by
  rw [← line_ch h, len_app, chan_len, TL.join_eq]
  obtain ⟨x, y, z, f, rfl, hx, hy, hz, hf⟩ := h
  have := PySem.StrLaws.join_length_le " " [x, y, z, f]
  have h1 := hx.2.1
  have h2 := hy.2.1
  have h3 := hz.2.1
  have h4 := fo_len hf
  simp only [List.map_cons, List.map_nil, List.sum_cons, List.sum_nil, List.length_cons, List.length_nil, one_sp] at this
  omega
theorem lines_short {ps : List Pty} {cs : List (List Str)} (hp : ∀ p ∈ ps, PaOk p) (hc : ∀ c ∈ cs, ChOk c) : ∀ l ∈ linesOf ps cs, l.length ≤ 700 := by
  intro l hl
  unfold linesOf at hl
  rcases List.mem_append.mp hl with h | h
  · obtain ⟨c, hcm, rfl⟩ := List.mem_map.mp h
    have := ch_len (hc c hcm); omega
  · obtain ⟨p, hpm, h⟩ := List.mem_flatMap.mp h
    unfold ptyLines at h
    rcases List.mem_cons.mp h with e | h
    · rw [e]; have := pa_len (hp p hpm); omega
    · obtain ⟨a, ha, rfl⟩ := List.mem_map.mp h
      have := ar_len (hp p hpm).n ((hp p hpm).a a ha); omega
def textOf (ps : List Pty) (cs : List (List Str)) : Str := Txt.join "\n" (linesOf ps cs)
def prD (ps : List Pty) (cs : List (List Str)) : D := .tup [.tup (ps.map paD), .tup (cs.map chD)]
theorem spec_ptext {ps : List Pty} {cs : List (List Str)} {Q : D → Sto → Prop} {st : Sto} (hp : ∀ p ∈ ps, PaOk p) (hc : ∀ c ∈ cs, ChOk c) (hpl : ps.length ≤ 8) (hcl : cs.length ≤ 20) (q : Q (.str (textOf ps cs)) st) :
    wp (m_program_text [prD ps cs]) Q st := by
  refine w_run' [.val (prD ps cs), .no, .no, .no, .no, .no, .no, .no, .no, .no, .no] rfl ?_
  unfold s_program_text
  refine w_seq (w_un (w_var rfl ⟨[.val (prD ps cs), .val (.tup (ps.map paD)), .val (.tup (cs.map chD)), .no, .no, .no, .no, .no, .no, .no, .no], by simp [Pt.set, setAll, prD], ?_⟩))
  subst_eqs
  refine ⟨_, rfl, ?_⟩
  let g : D → D := fun d => match d with
    | .tup ws => .str (line (("channel" : Str) :: (strsD ws).getD []))
    | d => d
  have gch : ∀ c, g (chD c) = .str (line (chL c)) := fun c => by show D.str (line (_ :: (strsD (c.map D.str)).getD [])) = _; rw [strs_map]; rfl
  refine lc_map (by simp [wipeE]) g _ _ (fun d hd R k => ?_) ?_
  · obtain ⟨c, hcm, rfl⟩ := List.mem_map.mp hd
    obtain ⟨b1, b2⟩ := ch_short (hc c hcm)
    have hj := join_len (y := " ") b1 b2 (Nat.le_refl 1)
    subst_eqs
    refine w_joinT b1 b2 (Nat.le_refl 1) ?_
    refine w_addS (small (by rw [chan_len]; omega)) ?_
    rw [gch] at k
    rw [line_ch (hc c hcm)]
    exact k
  · have e0 : (cs.map chD).map g = (linesOf (ps.take 0) cs).map D.str := by
      rw [List.map_map]
      unfold linesOf
      rw [List.take_zero, List.flatMap_nil, List.append_nil, List.map_map]
      exact List.map_congr_left fun c _ => gch c
    rw [e0]
    subst_eqs
    refine ⟨_, rfl, ?_⟩
    refine for_each (fun j ρ s => ∃ x4 x5 x6 x7 x8 x9 x10, ρ = [.val (prD ps cs), .val (.tup (ps.map paD)), .val (.tup (cs.map chD)), .own ((linesOf (ps.take j) cs).map D.str), x4, x5, x6, x7, x8, x9, x10] ∧ s = st) _ 0 _ _ ?_ ?_ ?_
    · rintro m d ρ s hm ⟨x4, x5, x6, x7, x8, x9, x10, rfl, rfl⟩
      rw [List.getElem?_map] at hm
      cases hpm : ps[m]? with
      | none => rw [hpm] at hm; cases hm
      | some p =>
        rw [hpm] at hm
        cases hm
        have ok := hp p (List.mem_of_getElem? hpm)
        rw [Nat.zero_add, lines_step hpm]
        have hlen : (linesOf (ps.take m) cs).length ≤ 188 := by
          have h1 := lines_len (cs := cs) (ps := ps.take m) fun q hq => hp q (List.mem_of_mem_take hq)
          have h2 : (ps.take m).length ≤ 8 := by rw [List.length_take]; omega
          omega
        refine ⟨[.val (prD ps cs), .val (.tup (ps.map paD)), .val (.tup (cs.map chD)), .own ((linesOf (ps.take m) cs).map D.str), x4, .val (.str p.nm), .val (.tup (p.es.map D.int)), .val (.tup (p.as.map arD)), x8, x9, x10], by simp [Pt.set, setAll, paD], ?_⟩
        have hn := ok.n.2.1
        obtain ⟨k1, k2, k3, k4⟩ := ends_ok ok.e
        have hel := ok.el
        refine w_seq (w_app rfl (w_fj (w_fjc (w_c (k_str ⟨small (by rw [len_app, e_len, party_len]; omega), w_fjc (w_e1 (w_var rfl (w_fmtS (small (by omega)) (k_str ⟨small (by simp only [len_app, e_len, party_len]; omega), w_fjc (w_c (k_str ⟨small (by simp only [len_app, e_len, party_len, one_sp]; omega), w_fjc (w_e1 (w_call (w_aC (w_var rfl (w_aN ⟨rfl, spec_etext ok.e hel (w_fmtS (small (by omega)) (k_str ⟨small (by simp only [len_app, e_len, party_len, one_sp]; omega), w_fjn ?_⟩))⟩)))))⟩))⟩))))⟩)))))
        refine ⟨small (by rw [List.length_map]; omega), ?_⟩
        rw [fj_pa]
        refine k_seq (w_for ?_)
        subst_eqs
        refine ⟨_, rfl, ?_⟩
        have oal := ok.al
        refine for_each (fun j ρ t => ∃ x8 x9 x10, ρ = [.val (prD ps cs), .val (.tup (ps.map paD)), .val (.tup (cs.map chD)), .own ((linesOf (ps.take m) cs ++ (line (paL p) :: (p.as.take j).map fun a => line (arL p.nm a))).map D.str), x4, .val (.str p.nm), .val (.tup (p.es.map D.int)), .val (.tup (p.as.map arD)), x8, x9, x10] ∧ t = s) _ 0 _ _ ?_ ?_ ?_
        · rintro k d ρ t hk ⟨y8, y9, y10, rfl, rfl⟩
          rw [List.getElem?_map] at hk
          cases hak : p.as[k]? with
          | none => rw [hak] at hk; cases hk
          | some a =>
            rw [hak] at hk
            cases hk
            have oka := ok.a a (List.mem_of_getElem? hak)
            have n1 := (num_len oka.p).2
            have n2 := (num_len oka.l).2
            have n3 := dow_len oka.d
            rw [Nat.zero_add]
            refine ⟨[.val (prD ps cs), .val (.tup (ps.map paD)), .val (.tup (cs.map chD)), .own ((linesOf (ps.take m) cs ++ (line (paL p) :: (p.as.take k).map fun a => line (arL p.nm a))).map D.str), x4, .val (.str p.nm), .val (.tup (p.es.map D.int)), .val (.tup (p.as.map arD)), .val (.int a.1), .val (.tup (a.2.1.map D.str)), .val (.int a.2.2)], by simp [Pt.set, setAll, arD], ?_⟩
            refine w_app rfl (w_fj (w_fjc (w_c (k_str ⟨small (by rw [len_app, e_len, arrow_len]; omega), ?_⟩))))
            refine w_fjc (w_e1 (w_var rfl (w_fmtS (small (by omega)) (k_str ⟨small (by simp only [len_app, e_len, arrow_len]; omega), ?_⟩))))
            refine w_fjc (w_c (k_str ⟨small (by simp only [len_app, e_len, arrow_len, one_sp]; omega), ?_⟩))
            refine w_fjc (w_e1 (w_var rfl (w_fmtI oka.p (k_str ⟨small (by simp only [len_app, e_len, arrow_len, one_sp]; omega), ?_⟩))))
            refine w_fjc (w_c (k_str ⟨small (by simp only [len_app, e_len, arrow_len, one_sp]; omega), ?_⟩))
            refine w_fjc (w_e1 (w_call (w_aC (w_var rfl (w_aN ⟨rfl, spec_dtext oka.d (w_fmtS (small (by omega)) (k_str ⟨small (by simp only [len_app, e_len, arrow_len, one_sp]; omega), ?_⟩))⟩)))))
            refine w_fjc (w_c (k_str ⟨small (by simp only [len_app, e_len, arrow_len, one_sp]; omega), ?_⟩))
            refine w_fjc (w_e1 (w_var rfl (w_fmtI oka.l (k_str ⟨small (by simp only [len_app, e_len, arrow_len, one_sp]; omega), w_fjn ?_⟩))))
            rw [fj_ar _ _ oka.d]
            have ha : k < p.as.length := (List.getElem?_eq_some_iff.mp hak).1
            have eo : (linesOf (ps.take m) cs ++ (line (paL p) :: (p.as.take k).map fun a => line (arL p.nm a))).map D.str ++ [.str (line (arL p.nm a))] = (linesOf (ps.take m) cs ++ (line (paL p) :: (p.as.take (k + 1)).map fun a => line (arL p.nm a))).map D.str := by
              rw [List.take_add_one, hak]
              simp
            refine ⟨small (by simp only [List.length_map, List.length_append, List.length_cons, List.length_take]; omega), rfl, .val (.int a.1), .val (.tup (a.2.1.map D.str)), .val (.int a.2.2), ?_, rfl⟩
            rw [← eo]
            rfl
        · exact ⟨x8, x9, x10, by simp, rfl⟩
        · rintro ρ t ⟨y8, y9, y10, rfl, rfl⟩
          rw [List.length_map, Nat.zero_add, List.take_length]
          exact ⟨rfl, _, _, _, _, _, _, _, rfl, rfl⟩
    · exact ⟨_, _, _, _, _, _, _, rfl, rfl⟩
    · rintro ρ s ⟨x4, x5, x6, x7, x8, x9, x10, rfl, rfl⟩
      rw [List.length_map, Nat.zero_add, List.take_length]
      subst_eqs
      refine w_joinL (lines_short hp hc) ?_ (Nat.le_refl 1) ?_
      · have := lines_len (cs := cs) hp; omega
      · subst_eqs
        exact q
end LK

set_option linter.all false
set_option maxRecDepth 100000
set_option maxHeartbeats 4000000
/-! K70: the kinds of a line's words. -/
namespace LK
open PySem PySem.Spec L2 PL PG
section
variable {R : D → Sto → Prop} {st : Sto} {k : Nat} {ds : List D}
theorem w_dr1 {p : D → M D} (h : st[k]? = some (.lst ds)) (q : wp (p (.lst ds)) R st) : wp (dr1 p (.ref k)) R st := by
  show wp ((((lstAt k).bind fun ds => M.pure (.lst ds))).bind p) R st
  rw [wp_bind, wp_bind, wp_lstAt]
  exact ⟨ds, h, by rw [wp_pure]; exact q⟩
theorem w_drL {p : D → D → M D} {y : D} (h : st[k]? = some (.lst ds)) (q : wp (p (.lst ds) y) R st) : wp (drL p (.ref k) y) R st := by
  show wp ((((lstAt k).bind fun ds => M.pure (.lst ds))).bind fun x => p x y) R st
  rw [wp_bind, wp_bind, wp_lstAt]
  exact ⟨ds, h, by rw [wp_pure]; exact q⟩
end
def arK (n : Str) (ws : List Str) : List D := [.tup [.str "arrow"], .tup [.str n], .str "number"] ++ doK ws ++ [.str "number"]
theorem dok_len (ws : List Str) : (doK ws).length ≤ 3 := by unfold doK; split <;> decide
theorem spec_akinds {n : Str} {a : Int × List Str × Int} {Q : D → Sto → Prop} {st : Sto} (h : DoW a.2.1) (q : Q (.tup (arK n a.2.1)) st) : wp (m_arrow_kinds [.lst ((arL n a).map D.str), .tup [.str n]]) Q st := by
  refine w_run' [.val (.lst ((arL n a).map D.str)), .val (.tup [.str n])] rfl ?_
  unfold s_arrow_kinds
  have hcut : cutD ((arL n a).map D.str) (some 3) none = (a.2.1 ++ [numS a.2.2]).map D.str := by
    unfold cutD arL
    have e : HT.sIx (([("arrow" : Str), n, numS a.1] ++ a.2.1 ++ [numS a.2.2]).map D.str).length 0 (some ((3 : Nat) : Int)) = 3 := by
      rw [HT.sIx_nat]
      simp only [List.length_map, List.length_append, List.length_cons, List.length_nil]
      omega
    show List.take (_ - HT.sIx _ 0 (some ((3 : Nat) : Int))) (List.drop (HT.sIx _ 0 (some ((3 : Nat) : Int))) _) = _
    rw [e, HT.sIx_none, ← List.map_drop, List.append_assoc]
    show List.take _ (List.map D.str (a.2.1 ++ [numS a.2.2])) = _
    refine List.take_of_length_le ?_
    simp only [List.length_map, List.length_append, List.length_cons, List.length_nil]
    omega
  have hd := dok_len a.2.1
  subst_eqs
  refine ⟨by show 1 ≤ sizeLine; decide, ?_⟩
  subst_eqs
  refine ⟨by show 3 ≤ sizeLine; decide, ?_⟩
  subst_eqs
  rw [hcut]
  refine ⟨rfl, spec_dkinds h ?_⟩
  refine w_addT (small (by simp only [List.length_cons, List.length_nil]; omega)) ?_
  subst_eqs
  refine ⟨by show 1 ≤ sizeLine; decide, ?_⟩
  refine w_addT (small (by simp only [List.length_append, List.length_cons, List.length_nil]; omega)) ?_
  subst_eqs
  exact q
def chK : List D := [.tup [.str "channel"], .str "name", .str "name", .str "name", .tup [.str "queue", .str "bag", .str "call"]]
def paK : List D := [.tup [.str "party"], .str "name", .str "ends"]
theorem ok_channel : PyData.strOk "channel" = true := by decide +kernel
theorem ok_party : PyData.strOk "party" = true := by decide +kernel
theorem ok_arrow : PyData.strOk "arrow" = true := by decide +kernel
theorem lkinds_pa {p : Pty} {x : D} {Q : D → Sto → Prop} {st : Sto} (q : Q (.tup paK) st) : wp (m__line_kinds [.lst ((paL p).map D.str), x]) Q st := by
  refine w_run' [.val (.lst ((paL p).map D.str)), .val x] rfl ?_
  unfold s__line_kinds
  subst_eqs
  refine w_ixL (d := .str "party") (atI_nat (j := 0) rfl) ?_
  subst_eqs
  refine w_eq (str_dec ok_party) (str_dec ok_party) ?_
  rw [eqv_ss, beq_self_eq_true]
  subst_eqs
  refine ⟨by show 1 ≤ sizeLine; decide, ?_⟩
  subst_eqs
  refine ⟨by show 3 ≤ sizeLine; decide, ?_⟩
  subst_eqs
  exact q
theorem lkinds_ch {c : List Str} {k : Nat} {Q : D → Sto → Prop} {st : Sto} (hs : st[k]? = some (.lst [])) (q : Q (.tup chK) st) : wp (m__line_kinds [.lst ((chL c).map D.str), .ref k]) Q st := by
  refine w_run' [.val (.lst ((chL c).map D.str)), .val (.ref k)] rfl ?_
  unfold s__line_kinds
  subst_eqs
  refine w_ixL (d := .str "channel") (atI_nat (j := 0) rfl) ?_
  subst_eqs
  refine w_eq (str_dec ok_channel) (str_dec ok_party) ?_
  rw [eqv_ss, show (("channel" : Str) == "party") = false by decide]
  subst_eqs
  refine w_dr1 hs ?_
  subst_eqs
  refine k_if (fun e => absurd e (by decide)) fun _ => ?_
  subst_eqs
  refine ⟨by show 1 ≤ sizeLine; decide, ?_⟩
  subst_eqs
  refine ⟨by show 5 ≤ sizeLine; decide, ?_⟩
  subst_eqs
  exact q
theorem lkinds_ar {ps : List Pty} {p : Pty} {a : Int × List Str × Int} {k : Nat} {Q : D → Sto → Prop} {st : Sto} (hs : st[k]? = some (.lst ((ps ++ [p]).map paD))) (h : DoW a.2.1) (q : Q (.tup (arK p.nm a.2.1)) st) : wp (m__line_kinds [.lst ((arL p.nm a).map D.str), .ref k]) Q st := by
  refine w_run' [.val (.lst ((arL p.nm a).map D.str)), .val (.ref k)] rfl ?_
  unfold s__line_kinds
  subst_eqs
  refine w_ixL (d := .str "arrow") (atI_nat (j := 0) rfl) ?_
  subst_eqs
  refine w_eq (str_dec ok_arrow) (str_dec ok_party) ?_
  rw [eqv_ss, show (("arrow" : Str) == "party") = false by decide]
  subst_eqs
  refine w_dr1 hs ?_
  subst_eqs
  refine k_if (fun _ => ?_) fun e => absurd (of_decide_eq_false e) (by simp)
  subst_eqs
  refine w_drL hs ?_
  refine w_ixL (d := paD p) (by rw [List.map_append]; exact atI_last _ _) ?_
  subst_eqs
  refine w_ixT (d := .str p.nm) (atI_nat (j := 0) rfl) ?_
  subst_eqs
  refine ⟨by show 1 ≤ sizeLine; decide, ?_⟩
  subst_eqs
  refine ⟨rfl, spec_akinds h ?_⟩
  subst_eqs
  exact q
end LK

set_option linter.all false
set_option maxRecDepth 100000
set_option maxHeartbeats 4000000
/-! K71: the words of a line are of their kinds; an arrow's words are read. -/
namespace LK
open PySem PySem.Spec L2 PL PG
abbrev KindsOk (ws : List Str) (ks : List D) : Prop := ws.length = ks.length ∧ ∀ (m : Nat) (w : Str) (kd : D), ws[m]? = some w → ks[m]? = some kd → ∀ (R : D → Sto → Prop) (st : Sto), R (.bl true) st → wp (m__is_of_kind [.str w, kd]) R st
theorem kinds_nil : KindsOk [] [] := ⟨rfl, fun m w kd h => by simp at h⟩
theorem kinds_cons {w : Str} {kd : D} {ws : List Str} {ks : List D} (h : ∀ (R : D → Sto → Prop) (st : Sto), R (.bl true) st → wp (m__is_of_kind [.str w, kd]) R st) (t : KindsOk ws ks) : KindsOk (w :: ws) (kd :: ks) := by
  refine ⟨by simp [t.1], fun m v kv h1 h2 => ?_⟩
  cases m with
  | zero => cases h1; cases h2; exact h
  | succ m => exact t.2 m v kv (by simpa using h1) (by simpa using h2)
theorem kinds_app {ws vs : List Str} {ks ls : List D} (a : KindsOk ws ks) (b : KindsOk vs ls) : KindsOk (ws ++ vs) (ks ++ ls) := by
  refine ⟨by simp [a.1, b.1], fun m v kv h1 h2 => ?_⟩
  by_cases hm : m < ws.length
  · rw [List.getElem?_append_left hm] at h1
    rw [List.getElem?_append_left (by rw [← a.1]; exact hm)] at h2
    exact a.2 m v kv h1 h2
  · rw [List.getElem?_append_right (by omega)] at h1
    rw [List.getElem?_append_right (by rw [← a.1]; omega), ← a.1] at h2
    exact b.2 _ v kv h1 h2
theorem fo_ok {f : Str} (h : f = ("queue" : Str) ∨ f = ("bag" : Str) ∨ f = ("call" : Str)) : PyData.strOk f = true := by
  rcases h with rfl | rfl | rfl <;> decide +kernel
theorem kinds_ch {c : List Str} (h : ChOk c) : KindsOk (chL c) chK := by
  obtain ⟨x, y, z, f, rfl, hx, hy, hz, hf⟩ := h
  refine kinds_cons (fun R st k => kind_opts (os := [("channel" : Str)]) ok_channel (by decide +kernel) (by simp) k) ?_
  refine kinds_cons (fun R st k => kind_name hx k) (kinds_cons (fun R st k => kind_name hy k) (kinds_cons (fun R st k => kind_name hz k) ?_))
  refine kinds_cons (fun R st k => kind_opts (os := [("queue" : Str), ("bag" : Str), ("call" : Str)]) (fo_ok hf) (by decide +kernel) (by simpa using hf) k) kinds_nil
theorem kinds_pa {p : Pty} (h : PaOk p) : KindsOk (paL p) paK := by
  refine kinds_cons (fun R st k => kind_opts (os := [("party" : Str)]) ok_party (by decide +kernel) (by simp) k) ?_
  exact kinds_cons (fun R st k => kind_name h.n k) (kinds_cons (fun R st k => kind_ends h.r h.e h.el k) kinds_nil)
theorem kinds_ar {n : Str} {a : Int × List Str × Int} (hn : Nm n) (h : ArOk a) : KindsOk (arL n a) (arK n a.2.1) := by
  refine kinds_app (kinds_app ?_ (do_kinds h.d)) (kinds_cons (fun R st k => kind_number h.l k) kinds_nil)
  refine kinds_cons (fun R st k => kind_opts (os := [("arrow" : Str)]) ok_arrow (by decide +kernel) (by simp) k) ?_
  exact kinds_cons (fun R st k => kind_opts (os := [n]) (nm_ok hn) (fun o ho => by rw [List.mem_singleton.mp ho]; exact nm_ok hn) (by simp) k) (kinds_cons (fun R st k => kind_number h.p k) kinds_nil)
theorem spec_aread {n : Str} {a : Int × List Str × Int} {Q : D → Sto → Prop} {st : Sto} (h : ArOk a) (q : Q (arD a) st) : wp (m_arrow_read [.lst ((arL n a).map D.str)]) Q st := by
  refine w_run' [.val (.lst ((arL n a).map D.str))] rfl ?_
  unfold s_arrow_read
  have hlen : ((arL n a).map D.str).length = 3 + a.2.1.length + 1 := by
    unfold arL
    simp only [List.length_map, List.length_append, List.length_cons, List.length_nil]
  have hcut : cutD ((arL n a).map D.str) (some 3) (some (-1)) = a.2.1.map D.str := by
    unfold cutD
    have e3 : HT.sIx ((arL n a).map D.str).length 0 (some (3 : Int)) = 3 := by
      show HT.sIx _ 0 (some ((3 : Nat) : Int)) = 3
      rw [HT.sIx_nat, hlen]; omega
    have e1 : HT.sIx ((arL n a).map D.str).length ((arL n a).map D.str).length (some (-1 : Int)) = 3 + a.2.1.length := by
      show (if (-1 : Int) < 0 then ((-1 : Int) + (((arL n a).map D.str).length : Int)).toNat else min (-1 : Int).toNat ((arL n a).map D.str).length) = _
      rw [if_pos (by decide), hlen]; omega
    rw [e3, e1, ← List.map_drop]
    unfold arL
    rw [List.append_assoc]
    show List.take _ (List.map D.str (a.2.1 ++ [numS a.2.2])) = _
    rw [← List.map_take, show 3 + a.2.1.length - 3 = a.2.1.length by omega, List.take_left]
  have hlast : atI ((arL n a).map D.str) (-1) = some (.str (numS a.2.2)) := by
    unfold arL
    rw [List.map_append]
    exact atI_last _ _
  subst_eqs
  refine w_ixL (d := .str (numS a.1)) (atI_nat (j := 2) rfl) ?_
  refine w_intT h.p ?_
  subst_eqs
  rw [hcut]
  subst_eqs
  refine w_ixL hlast ?_
  refine w_intT h.l ?_
  subst_eqs
  refine ⟨by show 3 ≤ sizeLine; decide, ?_⟩
  subst_eqs
  exact q
end LK

set_option linter.all false
set_option maxRecDepth 100000
set_option maxHeartbeats 4000000
/-! K72: program_read, line by line. -/
namespace LK
open PySem PySem.Spec L2 PL PG
section
variable {Q : Fl × En → Sto → Prop} {st : Sto} {ρ : En} {f g : En → M D} {i n : Nat}
theorem w_lput {ds0 : List D} (hr : refS i ρ = some n) (h0 : st[n]? = some (.lst ds0)) (k : wp (f ρ) (fun d s => ∃ ds, s[n]? = some (.lst ds) ∧ ds.length + 1 ≤ sizeLine ∧ Q (.nx, ρ) (s.set n (.lst (ds ++ [d])))) st) : wp (sLput i f appK ρ) Q st := by
  unfold sLput
  rw [wp_bind, hr, wp_some, wp_bind, wp_lstAt]
  refine ⟨ds0, h0, ?_⟩
  rw [wp_bind]
  refine wp_mono k fun d s ⟨ds, h1, h2, h3⟩ => ?_
  rw [wp_bind, wp_lstAt]
  refine ⟨ds, h1, ?_⟩
  unfold appK
  rw [wp_bind, wp_bind, wp_line]
  refine ⟨h2, ?_⟩
  rw [wp_pure, wp_bind, wp_setAt, wp_pure]
  exact h3
theorem w_lset {z : Int} (k : wp (f ρ) (fun d s => refS i ρ = some n ∧ wp (g ρ) (fun x s => x = .int z ∧ ∃ ds j, s[n]? = some (.lst ds) ∧ ixN ds.length z = some j ∧ Q (.nx, ρ) (s.set n (.lst (ds.set j d)))) s) st) : wp (sLset i g f ρ) Q st := by
  unfold sLset
  rw [wp_bind]
  refine wp_mono k fun d s ⟨hr, k⟩ => ?_
  rw [wp_bind, hr, wp_some, wp_bind]
  refine wp_mono k fun x s ⟨e, ds, j, h1, h2, h3⟩ => ?_
  subst e
  rw [wp_bind, wp_some, wp_bind, wp_lstAt]
  refine ⟨ds, h1, ?_⟩
  unfold setK
  rw [wp_bind, wp_bind, h2, wp_some, wp_pure, wp_bind, wp_setAt, wp_pure]
  exact h3
end
def rdBody : En → M (Fl × En) := sSeq (sSet 6 (eM1 splitM (eVar 5) (eC (.str " ")))) (sSeq (sExpr (eCall 4 m_check_words (aCons (eVar 6) (aCons (eCall 2 m__line_kinds (aCons (eVar 6) (aCons (eVar 2) (aNil)))) (aCons (e2 addM (eVar 1) (eVar 4)) (aCons (eC (.int 0)) (aNil))))))) (sIf (tBl (e2 eqM (e2 ixM (eVar 6) (eC (.int 0))) (eC (.str "channel")))) (sApp 3 (e1 tupM (eSl (eVar 6) (oSo (eC (.int 1))) oNo))) (sIf (tBl (e2 eqM (e2 ixM (eVar 6) (eC (.int 0))) (eC (.str "party")))) (sLput 2 (eTup (aCons (e2 ixM (eVar 6) (eC (.int 1))) (aCons (eCall 1 m_ends_read (aCons (e2 ixM (eVar 6) (eC (.int 2))) (aNil))) (aCons (eTup (aNil)) (aNil))))) appK) (sSeq (sUn (.tp [7, 8, 9]) (e2 (drL ixM) (eVar 2) (eNeg (eC (.int 1))))) (sLset 2 (eNeg (eC (.int 1))) (eTup (aCons (eVar 7) (aCons (eVar 8) (aCons (e2 addM (eVar 9) (eTup (aCons (eCall 1 m_arrow_read (aCons (eVar 6) (aNil))) (aNil)))) (aNil))))))))))
theorem drop1 {w : Str} {ws : List Str} : cutD ((w :: ws).map D.str) (some 1) none = ws.map D.str := by
  unfold cutD
  have e : HT.sIx ((w :: ws).map D.str).length 0 (some (1 : Int)) = 1 := by
    show HT.sIx _ 0 (some ((1 : Nat) : Int)) = 1
    rw [HT.sIx_nat]
    simp
  rw [e, HT.sIx_none]
  show List.take _ (ws.map D.str) = _
  exact List.take_of_length_le (by simp)
/-- what is asked of a line's words to be split -/
structure WdOk (ws : List Str) : Prop where
  ne : ws ≠ []
  sp : ∀ w ∈ ws, 32 ∉ w.cps.toList
  ln : ∀ w ∈ ws, w.length ≤ 700
  n : ws.length ≤ 300
theorem chan_step {cs : List (List Str)} {c : List Str} {t : D} {i : Int} {a6 a7 a8 a9 : Slot} {k : Nat} {st : Sto} (hc : ChOk c) (hw : WdOk (chL c)) (hl : cs.length ≤ 1000) (hs : st[k]? = some (.lst [])) :
    wp (rdBody [.val t, .val (.int 0), .val (.ref k), .own (cs.map chD), .val (.int i), .val (.str (line (chL c))), a6, a7, a8, a9]) (fun r s => r.1 = .nx ∧ ∃ a6, r.2 = [.val t, .val (.int 0), .val (.ref k), .own ((cs ++ [c]).map chD), .val (.int i), .val (.str (line (chL c))), a6, a7, a8, a9] ∧ s = st) st := by
  unfold rdBody
  obtain ⟨k1, k2⟩ := kinds_ch hc
  subst_eqs
  refine w_splitJ (s := 32) space (by decide) hw.ne hw.sp hw.ln hw.n ?_
  subst_eqs
  refine ⟨rfl, lkinds_ch hs ?_⟩
  subst_eqs
  refine ⟨rfl, spec_check k1 hw.n (fun m w kd a b R k => k2 m w kd a b R _ k) ?_⟩
  subst_eqs
  refine w_ixL (d := .str "channel") (atI_nat (j := 0) rfl) ?_
  subst_eqs
  refine w_eq (str_dec ok_channel) (str_dec ok_channel) ?_
  rw [eqv_ss, beq_self_eq_true]
  subst_eqs
  refine ⟨small (by rw [List.length_map]; omega), rfl, .val (.lst ((chL c).map D.str)), ?_, rfl⟩
  have e : cs.map chD ++ [.tup (cutD ((chL c).map D.str) (some 1) none)] = (cs ++ [c]).map chD := by
    rw [List.map_append]
    show _ ++ [D.tup (cutD ((("channel" : Str) :: c).map D.str) (some 1) none)] = _
    rw [drop1]
    rfl
  rw [← e]
  rfl
end LK

set_option linter.all false
set_option maxRecDepth 100000
set_option maxHeartbeats 4000000
/-! K73: program_read, lines of parties and arrows. -/
namespace LK
open PySem PySem.Spec L2 PL PG
theorem party_step {ps : List Pty} {p : Pty} {own : List D} {t : D} {i : Int} {a6 a7 a8 a9 : Slot} {k : Nat} {st : Sto} (hp : PaOk p) (hw : WdOk (paL p)) (hl : ps.length ≤ 1000) (hs : st[k]? = some (.lst (ps.map paD))) :
    wp (rdBody [.val t, .val (.int 0), .val (.ref k), .own own, .val (.int i), .val (.str (line (paL p))), a6, a7, a8, a9]) (fun r s => r.1 = .nx ∧ ∃ a6, r.2 = [.val t, .val (.int 0), .val (.ref k), .own own, .val (.int i), .val (.str (line (paL p))), a6, a7, a8, a9] ∧ s[k]? = some (.lst ((ps ++ [(⟨p.nm, p.es, []⟩ : Pty)]).map paD)) ∧ Same k st s) st := by
  unfold rdBody
  obtain ⟨k1, k2⟩ := kinds_pa hp
  subst_eqs
  refine w_splitJ (s := 32) space (by decide) hw.ne hw.sp hw.ln hw.n ?_
  subst_eqs
  refine ⟨rfl, lkinds_pa ?_⟩
  subst_eqs
  refine ⟨rfl, spec_check k1 hw.n (fun m w kd a b R k => k2 m w kd a b R _ k) ?_⟩
  subst_eqs
  refine w_ixL (d := .str "party") (atI_nat (j := 0) rfl) ?_
  subst_eqs
  refine w_eq (str_dec ok_party) (str_dec ok_channel) ?_
  rw [eqv_ss, show (("party" : Str) == "channel") = false by decide]
  subst_eqs
  refine w_ixL (d := .str "party") (atI_nat (j := 0) rfl) ?_
  subst_eqs
  refine w_eq (str_dec ok_party) (str_dec ok_party) ?_
  rw [eqv_ss, beq_self_eq_true]
  refine k_bl (k_ifT (w_lput rfl hs ?_))
  subst_eqs
  refine w_ixL (d := .str p.nm) (atI_nat (j := 1) rfl) ?_
  subst_eqs
  refine w_ixL (d := .str (endsT p.es)) (atI_nat (j := 2) rfl) ?_
  subst_eqs
  refine ⟨rfl, spec_ends hp.r hp.e hp.el ?_⟩
  subst_eqs
  refine ⟨by show 0 ≤ sizeLine; decide, ?_⟩
  subst_eqs
  refine ⟨by show 3 ≤ sizeLine; decide, ?_⟩
  refine ⟨_, hs, small (by rw [List.length_map]; omega), rfl, .val (.lst ((paL p).map D.str)), rfl, ?_, (Same.refl k st).set⟩
  rw [feed_set hs, List.map_append]
  rfl
theorem arrow_step {ps : List Pty} {p : Pty} {a : Int × List Str × Int} {own : List D} {t : D} {i : Int} {a6 a7 a8 a9 : Slot} {k : Nat} {st : Sto} (hn : Nm p.nm) (ha : ArOk a) (hal : p.as.length ≤ 1000) (hw : WdOk (arL p.nm a)) (hs : st[k]? = some (.lst ((ps ++ [p]).map paD))) :
    wp (rdBody [.val t, .val (.int 0), .val (.ref k), .own own, .val (.int i), .val (.str (line (arL p.nm a))), a6, a7, a8, a9]) (fun r s => r.1 = .nx ∧ ∃ a6 a7 a8 a9, r.2 = [.val t, .val (.int 0), .val (.ref k), .own own, .val (.int i), .val (.str (line (arL p.nm a))), a6, a7, a8, a9] ∧ s[k]? = some (.lst ((ps ++ [(⟨p.nm, p.es, p.as ++ [a]⟩ : Pty)]).map paD)) ∧ Same k st s) st := by
  unfold rdBody
  obtain ⟨k1, k2⟩ := kinds_ar hn ha
  subst_eqs
  refine w_splitJ (s := 32) space (by decide) hw.ne hw.sp hw.ln hw.n ?_
  subst_eqs
  refine ⟨rfl, lkinds_ar hs ha.d ?_⟩
  subst_eqs
  refine ⟨rfl, spec_check k1 hw.n (fun m w kd a b R k => k2 m w kd a b R _ k) ?_⟩
  subst_eqs
  refine w_ixL (d := .str "arrow") (atI_nat (j := 0) rfl) ?_
  subst_eqs
  refine w_eq (str_dec ok_arrow) (str_dec ok_channel) ?_
  rw [eqv_ss, show (("arrow" : Str) == "channel") = false by decide]
  subst_eqs
  refine w_ixL (d := .str "arrow") (atI_nat (j := 0) rfl) ?_
  subst_eqs
  refine w_eq (str_dec ok_arrow) (str_dec ok_party) ?_
  rw [eqv_ss, show (("arrow" : Str) == "party") = false by decide]
  subst_eqs
  refine w_drL hs ?_
  refine w_ixL (d := paD p) (by rw [List.map_append]; exact atI_last _ _) ?_
  refine ⟨[.val t, .val (.int 0), .val (.ref k), .own own, .val (.int i), .val (.str (line (arL p.nm a))), .val (.lst ((arL p.nm a).map D.str)), .val (.str p.nm), .val (.tup (p.es.map D.int)), .val (.tup (p.as.map arD))], by simp [Pt.set, setAll, paD], ?_⟩
  refine k_seq (w_lset (n := k) (z := -1) ?_)
  subst_eqs
  refine ⟨rfl, spec_aread ha ?_⟩
  subst_eqs
  refine ⟨by show 1 ≤ sizeLine; decide, ?_⟩
  refine w_addT (small (by rw [List.length_map]; show p.as.length + 1 ≤ 1000000; omega)) ?_
  subst_eqs
  refine ⟨by show 3 ≤ sizeLine; decide, rfl, ?_⟩
  subst_eqs
  refine ⟨rfl, _, ps.length, hs, ?_, rfl, .val (.lst ((arL p.nm a).map D.str)), .val (.str p.nm), .val (.tup (p.es.map D.int)), .val (.tup (p.as.map arD)), rfl, ?_, (Same.refl k st).set⟩
  · unfold ixN
    rw [if_neg (by decide), if_pos (by rw [List.length_map, List.length_append, List.length_singleton]; omega), List.length_map, List.length_append, List.length_singleton]
    congr 1
    omega
  · rw [feed_set hs, List.map_append, List.map_append]
    have e : (ps.map paD ++ [p].map paD).set ps.length (.tup [.str p.nm, .tup (p.es.map D.int), .tup (p.as.map arD ++ [arD a])]) = ps.map paD ++ [(⟨p.nm, p.es, p.as ++ [a]⟩ : Pty)].map paD := by
      rw [List.set_append_right _ _ (by rw [List.length_map]; exact Nat.le_refl _), List.length_map, Nat.sub_self]
      show _ ++ [D.tup [.str p.nm, .tup (p.es.map D.int), .tup (p.as.map arD ++ [arD a])]] = _ ++ [D.tup [.str p.nm, .tup (p.es.map D.int), .tup ((p.as ++ [a]).map arD)]]
      rw [List.map_append]
      rfl
    rw [← e]
end LK

set_option linter.all false
set_option maxRecDepth 100000
set_option maxHeartbeats 4000000
/-! K74: program_read, the walk. -/
namespace LK
open PySem PySem.Spec L2 PL PG
def Wd (w : Str) : Prop := w.cps.toList ≠ [] ∧ (∀ c ∈ w.cps.toList, 33 ≤ c) ∧ w.length ≤ 700
theorem wd_nm {x : Str} (h : Nm x) : Wd x := ⟨fun e => by have := h.1; rw [len_cps, e] at this; simp at this, fun c hc => by have := h.2.2 c hc; unfold Sg at this; omega, by have := h.2.1; omega⟩
theorem wd_num {i : Int} (h : Nu i) : Wd (numS i) := ⟨fun e => by have := (num_len h).1; rw [len_cps, e] at this; simp at this, fun c hc => by have := num_dig h.1 c hc; omega, by have := (num_len h).2; omega⟩
theorem wd_dec {x : Str} (h : (!x.cps.toList.isEmpty && x.cps.toList.all (fun c => decide (33 ≤ c)) && decide (x.length ≤ 700)) = true) : Wd x := by
  simp only [Bool.and_eq_true, decide_eq_true_eq, List.all_eq_true, Bool.not_eq_true', List.isEmpty_eq_false_iff] at h
  exact ⟨h.1.1, fun c hc => h.1.2 c hc, h.2⟩
theorem wd_ok {ws : List Str} (hne : ws ≠ []) (hn : ws.length ≤ 300) (h : ∀ w ∈ ws, Wd w) : WdOk ws := ⟨hne, fun w hw hm => by have := (h w hw).2.1 32 hm; omega, fun w hw => (h w hw).2.2, hn⟩
theorem wd_ends {p : Pty} (h : PaOk p) : Wd (endsT p.es) := by
  obtain ⟨k1, k2, k3, k4⟩ := ends_ok h.e
  refine ⟨fun e => ?_, fun c hc => by have := k4 c hc; omega, by have := h.el; omega⟩
  have hz : (endsT p.es).length = 0 := by rw [len_cps, e]; rfl
  cases hq : p.es with
  | nil => rw [hq] at hz; exact absurd hz (by decide)
  | cons x r =>
    rw [hq] at e
    unfold endsT at e
    rw [if_neg (by simp), TL.join_eq] at e
    have hx : (numS x).cps.toList ≠ [] := (wd_num (h.e x (by rw [hq]; exact List.mem_cons_self))).1
    cases r with
    | nil => exact hx e
    | cons y r =>
      have e2 : (numS x ++ "," ++ Str.join "," ((y :: r).map numS)).cps.toList = [] := e
      rw [app_cps, app_cps] at e2
      simp at e2
      exact hx (by simpa using e2.1)
theorem wds_ch {c : List Str} (h : ChOk c) : ∀ w ∈ chL c, Wd w := by
  obtain ⟨x, y, z, f, rfl, hx, hy, hz, hf⟩ := h
  intro w hw
  simp only [chL, List.mem_cons, List.not_mem_nil, or_false] at hw
  rcases hw with rfl | rfl | rfl | rfl | rfl
  · exact wd_dec (by decide)
  · exact wd_nm hx
  · exact wd_nm hy
  · exact wd_nm hz
  · rcases hf with rfl | rfl | rfl <;> exact wd_dec (by decide)
theorem wds_pa {p : Pty} (h : PaOk p) : ∀ w ∈ paL p, Wd w := by
  intro w hw
  simp only [paL, List.mem_cons, List.not_mem_nil, or_false] at hw
  rcases hw with rfl | rfl | rfl
  · exact wd_dec (by decide)
  · exact wd_nm h.n
  · exact wd_ends h
theorem wds_ar {n : Str} {a : Int × List Str × Int} (hn : Nm n) (h : ArOk a) : ∀ w ∈ arL n a, Wd w := by
  intro w hw
  unfold arL at hw
  simp only [List.mem_append, List.mem_cons, List.not_mem_nil, or_false] at hw
  rcases hw with ((rfl | rfl | rfl) | hw) | rfl
  · exact wd_dec (by decide)
  · exact wd_nm hn
  · exact wd_num h.p
  · exact wd_nm ((dow_nm h.d).1 w hw)
  · exact wd_num h.l
theorem mem_join {y : Str} {c : Nat} : ∀ {xs : List Str}, c ∈ (Str.join y xs).cps.toList → c ∈ y.cps.toList ∨ ∃ x ∈ xs, c ∈ x.cps.toList
  | [], h => absurd h (by simp [Str.join, Str.empty])
  | [x], h => .inr ⟨x, List.mem_cons_self, h⟩
  | x :: z :: r, h => by
    have h' : c ∈ (x ++ y ++ Str.join y (z :: r)).cps.toList := h
    rw [app_cps, app_cps] at h'
    rcases List.mem_append.mp h' with h | h
    · rcases List.mem_append.mp h with h | h
      · exact .inr ⟨x, List.mem_cons_self, h⟩
      · exact .inl h
    · rcases mem_join h with h | ⟨w, hw, h⟩
      · exact .inl h
      · exact .inr ⟨w, List.mem_cons_of_mem _ hw, h⟩
theorem join_ne {y : Str} : ∀ {xs : List Str}, xs ≠ [] → (∀ x ∈ xs, x.cps.toList ≠ []) → (Txt.join y xs).cps.toList ≠ [] := by
  intro xs h hx
  rw [TL.join_eq]
  match xs, h, hx with
  | [x], _, hx => exact hx x List.mem_cons_self
  | x :: z :: r, _, hx =>
    intro e
    have e2 : (x ++ y ++ Str.join y (z :: r)).cps.toList = [] := e
    rw [app_cps, app_cps] at e2
    simp at e2
    exact hx x List.mem_cons_self (by simpa using e2.1)
/-- a line: no line's end, not empty -/
def Ln (l : Str) : Prop := 10 ∉ l.cps.toList ∧ l.cps.toList ≠ []
theorem line_ok {ws : List Str} (hne : ws ≠ []) (h : ∀ w ∈ ws, Wd w) : Ln (line ws) := by
  refine ⟨fun hm => ?_, join_ne hne fun x hx => (h x hx).1⟩
  unfold line at hm
  rw [TL.join_eq] at hm
  rcases mem_join hm with h1 | ⟨w, hw, h1⟩
  · exact absurd h1 (by decide)
  · have := (h w hw).2.1 10 h1; omega
theorem lines_ok {ps : List Pty} {cs : List (List Str)} (hp : ∀ p ∈ ps, PaOk p) (hc : ∀ c ∈ cs, ChOk c) : ∀ l ∈ linesOf ps cs, Ln l := by
  intro l hl
  unfold linesOf at hl
  rcases List.mem_append.mp hl with h | h
  · obtain ⟨c, hcm, rfl⟩ := List.mem_map.mp h
    exact line_ok (by simp [chL]) (wds_ch (hc c hcm))
  · obtain ⟨p, hpm, h⟩ := List.mem_flatMap.mp h
    unfold ptyLines at h
    rcases List.mem_cons.mp h with e | h
    · rw [e]; exact line_ok (by simp [paL]) (wds_pa (hp p hpm))
    · obtain ⟨a, ha, rfl⟩ := List.mem_map.mp h
      exact line_ok (by simp [arL]) (wds_ar (hp p hpm).n ((hp p hpm).a a ha))
end LK

set_option linter.all false
set_option maxRecDepth 100000
set_option maxHeartbeats 4000000
/-! K75: program_read gives the program back. -/
namespace LK
open PySem PySem.Spec L2 PL PG
/-- a walk over the first items, then over the others -/
theorem for_then {bd : En → M (Fl × En)} {Q : Fl × En → Sto → Prop} {p : Pt} (I : Nat → En → Sto → Prop) : ∀ (ds es : List D) (j : Nat) (ρ : En) (st : Sto), (∀ m d ρ s, ds[m]? = some d → I (j + m) ρ s → ∃ ρ', p.set d ρ = some ρ' ∧ wp (bd ρ') (fun r s' => r.1 = .nx ∧ I (j + m + 1) r.2 s') s) → I j ρ st →
    (∀ ρ s, I (j + ds.length) ρ s → wp (forL (fun d ρ => (opt (p.set d ρ)).bind bd) es ρ) Q s) → wp (forL (fun d ρ => (opt (p.set d ρ)).bind bd) (ds ++ es) ρ) Q st
  | [], es, j, ρ, st, _, hI, k => k ρ st hI
  | d :: ds, es, j, ρ, st, hs, hI, k => by
    obtain ⟨ρ', e, h⟩ := hs 0 d ρ st rfl hI
    show wp (((opt (p.set d ρ)).bind bd).bind fun r => match r.1 with
      | .nx => forL (fun d ρ => (opt (p.set d ρ)).bind bd) (ds ++ es) r.2
      | .ct => forL (fun d ρ => (opt (p.set d ρ)).bind bd) (ds ++ es) r.2
      | .brk => M.pure (.nx, r.2)
      | .ret x => M.pure (.ret x, r.2)) Q st
    rw [e]
    show wp ((bd ρ').bind _) Q st
    rw [wp_bind]
    refine wp_mono h fun r s1 ⟨e1, h1⟩ => ?_
    obtain ⟨fl, ρ1⟩ := r
    cases e1
    exact for_then I ds es (j + 1) ρ1 s1 (fun m d ρ s hm hi => by
      have := hs (m + 1) d ρ s (by simpa using hm) (by rw [show j + (m + 1) = j + 1 + m by omega]; exact hi)
      rw [show j + (m + 1) + 1 = j + 1 + m + 1 by omega] at this
      exact this) h1 fun ρ s h => k ρ s (by rw [List.length_cons, show j + (ds.length + 1) = j + 1 + ds.length by omega]; exact h)
theorem numb_app : ∀ (n : Nat) (xs ys : List D), numb n (xs ++ ys) = numb n xs ++ numb (n + xs.length) ys
  | n, [], ys => rfl
  | n, x :: xs, ys => by
    show D.tup [.int n, x] :: numb (n + 1) (xs ++ ys) = D.tup [.int n, x] :: (numb (n + 1) xs ++ numb (n + (xs.length + 1)) ys)
    rw [numb_app (n + 1) xs ys, show n + 1 + xs.length = n + (xs.length + 1) by omega]
/-- the state of the reader: cs and ps are read -/
def RS (t : D) (k : Nat) (own : List D) (ls : D) (st0 : Sto) (ps : List Pty) (ρ : En) (s : Sto) : Prop :=
  ∃ a4 a5 a6 a7 a8 a9, ρ = [.val t, .val (.int 0), .val (.ref k), .own own, a4, a5, a6, a7, a8, a9] ∧ s[k]? = some (.lst (ps.map paD)) ∧ Same k st0 s
abbrev rdLoop : List D → En → M (Fl × En) := forL (fun d ρ => (opt ((Pt.tp [4, 5]).set d ρ)).bind rdBody)
theorem pty_walk {t ls : D} {k : Nat} {own : List D} {st0 : Sto} {Q : Fl × En → Sto → Prop} : ∀ (rest : List Pty) (ps : List Pty) (n : Nat) (ρ : En) (s : Sto), (∀ p ∈ rest, PaOk p) → ps.length + rest.length ≤ 1000 → RS t k own ls st0 ps ρ s →
    (∀ ρ s, RS t k own ls st0 (ps ++ rest) ρ s → Q (.nx, ρ) s) → wp (rdLoop (numb n ((rest.flatMap ptyLines).map D.str)) ρ) Q s
  | [], ps, n, ρ, s, _, _, h, q => by
    show wp (M.pure (.nx, ρ)) Q s
    rw [wp_pure]
    exact q ρ s (by rw [List.append_nil]; exact h)
  | p :: rest, ps, n, ρ, s, hp, hl, h, q => by
    have ok := hp p List.mem_cons_self
    have e : numb n (((p :: rest).flatMap ptyLines).map D.str) = [D.tup [.int n, .str (line (paL p))]] ++ (numb (n + 1) ((p.as.map fun a => line (arL p.nm a)).map D.str) ++ numb (n + 1 + p.as.length) ((rest.flatMap ptyLines).map D.str)) := by
      rw [List.flatMap_cons, List.map_append, numb_app]
      have e2 : (List.map D.str (ptyLines p)).length = 1 + p.as.length := by unfold ptyLines; simp; omega
      rw [e2, show n + (1 + p.as.length) = n + 1 + p.as.length by omega]
      rfl
    rw [e]
    refine for_then (fun j ρ s => RS t k own ls st0 (if j = 0 then ps else ps ++ [⟨p.nm, p.es, []⟩]) ρ s) _ _ 0 ρ s ?_ h ?_
    · rintro m d ρ s hm ⟨a4, a5, a6, a7, a8, a9, rfl, hs, sm⟩
      have hm0 : m = 0 := by have := (List.getElem?_eq_some_iff.mp hm).1; simp at this; exact this
      subst hm0
      cases hm
      refine ⟨[.val t, .val (.int 0), .val (.ref k), .own own, .val (.int n), .val (.str (line (paL p))), a6, a7, a8, a9], by simp [Pt.set, setAll], ?_⟩
      refine wp_mono (party_step (ps := ps) ok (wd_ok (by simp [paL]) (by show 3 ≤ 300; decide) (wds_pa ok)) (by rw [List.length_cons] at hl; omega) hs) fun r s' ⟨e1, b6, e2, e3, e4⟩ => ⟨e1, ?_⟩
      exact ⟨_, _, b6, _, _, _, e2, e3, sm.trans e4⟩
    · intro ρ s h1
      refine for_then (fun j ρ s => RS t k own ls st0 (ps ++ [⟨p.nm, p.es, p.as.take j⟩]) ρ s) _ _ 0 ρ s ?_ (by rw [List.take_zero]; exact h1) ?_
      · rintro m d ρ s hm ⟨a4, a5, a6, a7, a8, a9, rfl, hs, sm⟩
        rw [numb_get, List.getElem?_map, List.getElem?_map] at hm
        cases ha : p.as[m]? with
        | none => rw [ha] at hm; cases hm
        | some a =>
          rw [ha] at hm
          cases hm
          have oka := ok.a a (List.mem_of_getElem? ha)
          rw [Nat.zero_add] at hs ⊢
          have hal := ok.al
          refine ⟨[.val t, .val (.int 0), .val (.ref k), .own own, .val (.int ((n + 1 + m : Nat) : Int)), .val (.str (line (arL p.nm a))), a6, a7, a8, a9], by simp [Pt.set, setAll], ?_⟩
          have hwl : (arL p.nm a).length ≤ 300 := by
            have := (dow_nm oka.d).2.2
            unfold arL
            simp only [List.length_append, List.length_cons, List.length_nil]
            omega
          refine wp_mono (arrow_step (p := ⟨p.nm, p.es, p.as.take m⟩) ok.n oka (by show (p.as.take m).length ≤ 1000; rw [List.length_take]; omega) (wd_ok (by simp [arL]) hwl (wds_ar ok.n oka)) hs) fun r s' ⟨e1, b6, b7, b8, b9, e2, e3, e4⟩ => ⟨e1, ?_⟩
          refine ⟨_, _, b6, b7, b8, b9, e2, ?_, sm.trans e4⟩
          rw [List.take_add_one, ha]
          exact e3
      · intro ρ s h2
        have el : (numb (n + 1) ((p.as.map fun a => line (arL p.nm a)).map D.str)).length = p.as.length := by rw [numb_len]; simp
        rw [el, Nat.zero_add, List.take_length] at h2
        exact pty_walk rest (ps ++ [p]) (n + 1 + p.as.length) ρ s (fun q hq => hp q (List.mem_cons_of_mem _ hq)) (by rw [List.length_append, List.length_singleton]; rw [List.length_cons] at hl; omega) h2 fun ρ s h3 => q ρ s (by rw [List.append_assoc] at h3; exact h3)
end LK

set_option linter.all false
set_option maxRecDepth 100000
set_option maxHeartbeats 4000000
/-! K76: program_read. -/
namespace LK
open PySem PySem.Spec L2 PL PG
theorem w_new {fl : En → M (List D)} {ρ : En} {R : D → Sto → Prop} {st : Sto} (k : wp (fl ρ) (fun ds s => R (.ref s.length) (s ++ [.lst ds])) st) : wp (eNew fl ρ) R st := by
  unfold eNew
  rw [wp_bind]
  simp only [wp_newOb]
  exact k
theorem newline : ("\n" : Str) = ⟨#[10]⟩ := by decide
theorem empty_ok : PyData.strOk "" = true := by decide +kernel
theorem text_ok {ps : List Pty} {cs : List (List Str)} (hp : ∀ p ∈ ps, PaOk p) (hc : ∀ c ∈ cs, ChOk c) : PyData.strOk (textOf ps cs) = true := by
  refine ok_join nl_ok fun l hl => ?_
  unfold linesOf at hl
  have hw : ∀ {ws : List Str}, (∀ w ∈ ws, PyData.strOk w = true) → PyData.strOk (line ws) = true := fun h => ok_join sp_ok h
  rcases List.mem_append.mp hl with h | h
  · obtain ⟨c, hcm, rfl⟩ := List.mem_map.mp h
    obtain ⟨x, y, z, f, rfl, hx, hy, hz, hf⟩ := hc c hcm
    refine hw fun w hw => ?_
    simp only [chL, List.mem_cons, List.not_mem_nil, or_false] at hw
    rcases hw with rfl | rfl | rfl | rfl | rfl
    · exact ok_channel
    · exact nm_ok hx
    · exact nm_ok hy
    · exact nm_ok hz
    · exact fo_ok hf
  · obtain ⟨p, hpm, h⟩ := List.mem_flatMap.mp h
    have ok := hp p hpm
    unfold ptyLines at h
    rcases List.mem_cons.mp h with e | h
    · rw [e]
      refine hw fun w hw => ?_
      simp only [paL, List.mem_cons, List.not_mem_nil, or_false] at hw
      rcases hw with rfl | rfl | rfl
      · exact ok_party
      · exact nm_ok ok.n
      · exact (ends_ok ok.e).1
    · obtain ⟨a, ha, rfl⟩ := List.mem_map.mp h
      have oka := ok.a a ha
      refine hw fun w hw => ?_
      unfold arL at hw
      simp only [List.mem_append, List.mem_cons, List.not_mem_nil, or_false] at hw
      rcases hw with ((rfl | rfl | rfl) | hw) | rfl
      · exact ok_arrow
      · exact nm_ok ok.n
      · exact num_ok oka.p.1
      · exact dow_ok oka.d w hw
      · exact num_ok oka.l.1
theorem spec_linesr {ps : List Pty} {cs : List (List Str)} {Q : D → Sto → Prop} {st : Sto} (hp : ∀ p ∈ ps, PaOk p) (hc : ∀ c ∈ cs, ChOk c) (hpl : ps.length ≤ 8) (hcl : cs.length ≤ 20) (q : ∀ s' : Sto, (∀ (m : Nat) (o : Ob), st[m]? = some o → s'[m]? = some o) → Q (prD ps cs) s') :
    wp (m_lines_read [.lst ((linesOf ps cs).map D.str), .int 0]) Q st := by
  refine w_run' [.val (.lst ((linesOf ps cs).map D.str)), .val (.int 0), .no, .no, .no, .no, .no, .no, .no, .no] rfl ?_
  unfold s_lines_read
  have hll := lines_len (cs := cs) hp
  refine w_seq (w_set (by simp) (w_new ?_))
  subst_eqs
  refine ⟨by decide, ?_⟩
  subst_eqs
  refine ⟨by decide, ?_⟩
  have hk : (st ++ [Ob.lst []])[st.length]? = some (.lst (([] : List Pty).map paD)) := by rw [List.getElem?_concat_length]; rfl
  refine k_seq (w_seq (w_for ?_))
  show wp ((aCons (eVar 0) aNil _).bind _) _ _
  rw [wp_bind]
  subst_eqs
  show wp ((PL.line ((linesOf ps cs).map D.str).length).bind fun _ => M.pure (numb 0 ((linesOf ps cs).map D.str))) _ _
  rw [wp_bind, wp_line, wp_pure]
  refine ⟨small (by rw [List.length_map]; omega), ?_⟩
  have e : numb 0 ((linesOf ps cs).map D.str) = numb 0 ((cs.map fun c => line (chL c)).map D.str) ++ numb (0 + cs.length) ((ps.flatMap ptyLines).map D.str) := by
    unfold linesOf
    rw [List.map_append, numb_app]
    simp
  rw [e]
  refine for_then (bd := rdBody) (fun j ρ s => RS (.lst ((linesOf ps cs).map D.str)) st.length ((cs.take j).map chD) .non (st ++ [.lst []]) [] ρ s) _ _ 0 _ _ ?_ ⟨_, _, _, _, _, _, rfl, hk, Same.refl _ _⟩ ?_
  · rintro m d ρ s hm ⟨a4, a5, a6, a7, a8, a9, rfl, hs, sm⟩
    rw [numb_get, List.getElem?_map, List.getElem?_map] at hm
    cases hcm : cs[m]? with
    | none => rw [hcm] at hm; cases hm
    | some c =>
      rw [hcm] at hm
      cases hm
      have okc := hc c (List.mem_of_getElem? hcm)
      rw [Nat.zero_add] at ⊢
      refine ⟨[.val (.lst ((linesOf ps cs).map D.str)), .val (.int 0), .val (.ref st.length), .own ((cs.take m).map chD), .val (.int ((0 + m : Nat) : Int)), .val (.str (line (chL c))), a6, a7, a8, a9], by simp [Pt.set, setAll], ?_⟩
      have hwl : (chL c).length ≤ 300 := by obtain ⟨x, y, z, f, rfl, _⟩ := okc; show 5 ≤ 300; decide
      refine wp_mono (chan_step (cs := cs.take m) okc (wd_ok (by simp [chL]) hwl (wds_ch okc)) (by rw [List.length_take]; omega) hs) fun r s' ⟨e1, b6, e2, e3⟩ => ⟨e1, ?_⟩
      subst e3
      have e4 : cs.take m ++ [c] = cs.take (m + 1) := by rw [List.take_add_one, hcm]; rfl
      rw [e4] at e2
      exact ⟨_, _, b6, _, _, _, e2, hs, sm⟩
  · intro ρ s h1
    have el : (numb 0 ((cs.map fun c => line (chL c)).map D.str)).length = cs.length := by rw [numb_len]; simp
    rw [el, Nat.zero_add, List.take_length] at h1
    refine pty_walk ps [] _ ρ s hp (by simp; omega) h1 fun ρ s h2 => ?_
    obtain ⟨a4, a5, a6, a7, a8, a9, rfl, hs, sm⟩ := h2
    rw [List.nil_append] at hs
    subst_eqs
    refine w_dr1 hs ?_
    subst_eqs
    refine ⟨by show 2 ≤ sizeLine; decide, ?_⟩
    subst_eqs
    refine q s fun m o ho => ?_
    have hm : m < st.length := (List.getElem?_eq_some_iff.mp ho).1
    rw [sm.2 m (by omega), List.getElem?_append_left hm]
    exact ho
theorem spec_pread {ps : List Pty} {cs : List (List Str)} {Q : D → Sto → Prop} {st : Sto} (hp : ∀ p ∈ ps, PaOk p) (hc : ∀ c ∈ cs, ChOk c) (hpl : ps.length ≤ 8) (hcl : cs.length ≤ 20) (q : ∀ s' : Sto, (∀ (m : Nat) (o : Ob), st[m]? = some o → s'[m]? = some o) → Q (prD ps cs) s') :
    wp (m_program_read [.str (textOf ps cs)]) Q st := by
  refine w_run' [.val (.str (textOf ps cs))] rfl ?_
  unfold s_program_read
  have hll := lines_len (cs := cs) hp
  have key : ∀ L : List D, L = (linesOf ps cs).map D.str → ∀ R : D → Sto → Prop, (∀ s' : Sto, (∀ (m : Nat) (o : Ob), st[m]? = some o → s'[m]? = some o) → R (prD ps cs) s') → wp (m_lines_read [.lst L, .int 0]) R st := by
    rintro _ rfl R k
    exact spec_linesr hp hc hpl hcl k
  subst_eqs
  refine w_eq (str_dec (text_ok hp hc)) (str_dec empty_ok) ?_
  rw [eqv_ss]
  by_cases hL : linesOf ps cs = []
  · have e : (textOf ps cs == "") = true := by unfold textOf; rw [hL]; decide
    rw [e]
    subst_eqs
    refine ⟨by decide, ?_⟩
    subst_eqs
    exact ⟨rfl, key [] (by rw [hL]; rfl) _ fun s' h => k_run (q s' h)⟩
  · have e : (textOf ps cs == "") = false := by
      rw [beq_eq_false_iff_ne]
      intro z
      have h1 := join_ne (y := "\n") hL fun l hl => (lines_ok hp hc l hl).2
      have z2 : Txt.join "\n" (linesOf ps cs) = "" := z
      rw [z2] at h1
      exact h1 (by decide)
    rw [e]
    subst_eqs
    refine w_splitJ (s := 10) newline (by decide) hL (fun l hl => (lines_ok hp hc l hl).1) (lines_short hp hc) (by omega) ?_
    subst_eqs
    exact ⟨rfl, key _ rfl _ fun s' h => k_run (q s' h)⟩
end LK

set_option linter.all false
set_option maxRecDepth 100000
set_option maxHeartbeats 4000000
/-! K77: a pair is right; its doings. -/
namespace LK
open PySem PySem.Spec L2 PL PG
theorem fla_str {x : Str} (h : PyData.strOk x = true) : ∀ n, Fla n (.str x)
  | 0 => h
  | _ + 1 => h
theorem fla_int {i : Int} : ∀ n, Fla n (.int i)
  | 0 => trivial
  | _ + 1 => trivial
theorem fla_tup {n : Nat} {ds : List D} (hl : ds.length ≤ 10000) (h : ∀ d ∈ ds, Fla n d) : Fla (n + 1) (.tup ds) := ⟨hl, h⟩
theorem fla_pr {ps : List Pty} {cs : List (List Str)} (hp : ∀ p ∈ ps, PaOk p) (hc : ∀ c ∈ cs, ChOk c) (hpl : ps.length ≤ 8) (hcl : cs.length ≤ 20) : Fla 9 (prD ps cs) := by
  refine fla_tup (by show 2 ≤ 10000; decide) fun d hd => ?_
  simp only [List.mem_cons, List.not_mem_nil, or_false] at hd
  rcases hd with rfl | rfl
  · refine fla_tup (by rw [List.length_map]; omega) fun d hd => ?_
    obtain ⟨p, hpm, rfl⟩ := List.mem_map.mp hd
    have ok := hp p hpm
    refine fla_tup (by show 3 ≤ 10000; decide) fun d hd => ?_
    simp only [List.mem_cons, List.not_mem_nil, or_false] at hd
    rcases hd with rfl | rfl | rfl
    · exact fla_str (nm_ok ok.n) _
    · refine fla_tup (by rw [List.length_map]; have := ok.el; omega) fun d hd => ?_
      obtain ⟨i, _, rfl⟩ := List.mem_map.mp hd
      exact fla_int _
    · refine fla_tup (by rw [List.length_map]; have := ok.al; omega) fun d hd => ?_
      obtain ⟨a, ha, rfl⟩ := List.mem_map.mp hd
      refine fla_tup (by show 3 ≤ 10000; decide) fun d hd => ?_
      simp only [List.mem_cons, List.not_mem_nil, or_false] at hd
      rcases hd with rfl | rfl | rfl
      · exact fla_int _
      · exact fla_do (ok.a a ha).d _
      · exact fla_int _
  · refine fla_tup (by rw [List.length_map]; omega) fun d hd => ?_
    obtain ⟨c, hcm, rfl⟩ := List.mem_map.mp hd
    obtain ⟨x, y, z, f, rfl, hx, hy, hz, hf⟩ := hc c hcm
    refine fla_tup (by show 4 ≤ 10000; decide) fun d hd => ?_
    simp only [List.map_cons, List.map_nil, List.mem_cons, List.not_mem_nil, or_false] at hd
    rcases hd with rfl | rfl | rfl | rfl
    · exact fla_str (nm_ok hx) _
    · exact fla_str (nm_ok hy) _
    · exact fla_str (nm_ok hz) _
    · exact fla_str (fo_ok hf) _
theorem spec_pairright {ps : List Pty} {cs : List (List Str)} {Q : D → Sto → Prop} {st : Sto} (hp : ∀ p ∈ ps, PaOk p) (hc : ∀ c ∈ cs, ChOk c) (hpl : ps.length ≤ 8) (hcl : cs.length ≤ 20) (q : ∀ s' : Sto, (∀ (m : Nat) (o : Ob), st[m]? = some o → s'[m]? = some o) → Q (.bl true) s') :
    wp (m__law_pair_right [prD ps cs]) Q st := by
  refine w_run' [.val (prD ps cs), .no, .no] rfl ?_
  unfold s__law_pair_right
  have hll := lines_len (cs := cs) hp
  have hT := text_ok hp hc
  subst_eqs
  refine w_ixT (d := .tup (ps.map paD)) (atI_nat (j := 0) rfl) ?_
  subst_eqs
  refine w_ixT (d := .tup (cs.map chD)) (atI_nat (j := 1) rfl) ?_
  subst_eqs
  refine ⟨rfl, spec_lines hp hc hpl hcl ?_⟩
  refine w_joinL (lines_short hp hc) (by omega) (Nat.le_refl 1) ?_
  subst_eqs
  refine ⟨rfl, spec_ptext hp hc hpl hcl ?_⟩
  subst_eqs
  refine ⟨rfl, same_str hT ?_⟩
  subst_eqs
  refine ⟨rfl, spec_pread hp hc hpl hcl fun s' keep => ?_⟩
  subst_eqs
  refine ⟨rfl, spec_same 9 _ _ _ (fla_pr hp hc hpl hcl) ?_⟩
  subst_eqs
  refine ⟨rfl, spec_ptext hp hc hpl hcl ?_⟩
  subst_eqs
  refine ⟨rfl, same_str hT ?_⟩
  subst_eqs
  exact q s' keep
theorem spec_doingsof {ps : List Pty} {cs : List (List Str)} {Q : D → Sto → Prop} {st : Sto} (hp : ∀ p ∈ ps, PaOk p) (hpl : ps.length ≤ 8) (q : ∀ ws : List (List Str), (∀ w ∈ ws, DoW w) → ws.length ≤ 160 → Q (.lst (ws.map fun w => .tup (w.map D.str))) st) :
    wp (m__law_doings_of [prD ps cs]) Q st := by
  refine w_run' [.val (prD ps cs), .no, .no, .no, .no, .no] rfl ?_
  unfold s__law_doings_of
  subst_eqs
  refine ⟨by decide, ?_⟩
  subst_eqs
  refine w_ixT (d := .tup (ps.map paD)) (atI_nat (j := 0) rfl) ?_
  refine ⟨_, rfl, ?_⟩
  refine for_each (fun j ρ s => ∃ x2 x3 x4 x5, ∃ ws : List (List Str), ρ = [.val (prD ps cs), .own (ws.map fun w => .tup (w.map D.str)), x2, x3, x4, x5] ∧ (∀ w ∈ ws, DoW w) ∧ ws.length ≤ 20 * j ∧ s = st) _ 0 _ _ ?_ ?_ ?_
  · rintro m d ρ s hm ⟨x2, x3, x4, x5, ws, rfl, hws, hwl, rfl⟩
    rw [List.getElem?_map] at hm
    cases hpm : ps[m]? with
    | none => rw [hpm] at hm; cases hm
    | some p =>
      rw [hpm] at hm
      cases hm
      have hm8 := (List.getElem?_eq_some_iff.mp hpm).1
      have ok := hp p (List.mem_of_getElem? hpm)
      have hal := ok.al
      refine ⟨[.val (prD ps cs), .own (ws.map fun w => .tup (w.map D.str)), .val (.str p.nm), .val (.tup (p.es.map D.int)), .val (.tup (p.as.map arD)), x5], by simp [Pt.set, setAll, paD], ?_⟩
      refine w_ext rfl (w_eL (w_lc ?_))
      subst_eqs
      refine ⟨_, rfl, ?_⟩
      let g : D → D := fun d => match d with
        | .tup [_, x, _] => x
        | d => d
      refine lc_map (by simp [wipeE]) g _ _ (fun d hd R k => ?_) ?_
      · obtain ⟨a, ha, rfl⟩ := List.mem_map.mp hd
        subst_eqs
        refine w_ixT (d := .tup (a.2.1.map D.str)) (atI_nat (j := 1) rfl) ?_
        exact k
      · have eg : (p.as.map arD).map g = (p.as.map fun a => a.2.1).map fun w => D.tup (w.map D.str) := by rw [List.map_map, List.map_map]; rfl
        rw [eg]
        refine ⟨_, rfl, small (by simp only [List.length_map]; omega), rfl, .val (.str p.nm), .val (.tup (p.es.map D.int)), .val (.tup (p.as.map arD)), x5, ws ++ p.as.map fun a => a.2.1, ?_, fun w hw => ?_, by rw [List.length_append, List.length_map]; omega, rfl⟩
        · rw [List.map_append]; rfl
        · rcases List.mem_append.mp hw with h | h
          · exact hws w h
          · obtain ⟨a, ha, rfl⟩ := List.mem_map.mp h
            exact (ok.a a ha).d
  · exact ⟨_, _, _, _, [], rfl, fun _ h => absurd h List.not_mem_nil, Nat.le_refl _, rfl⟩
  · rintro ρ s ⟨x2, x3, x4, x5, ws, rfl, hws, hwl, rfl⟩
    subst_eqs
    rw [List.length_map, Nat.zero_add] at hwl
    exact q ws hws (by omega)
end LK

set_option linter.all false
set_option maxRecDepth 100000
set_option maxHeartbeats 4000000
/-! K78: loosened pairs. -/
namespace LK
open PySem PySem.Spec L2 PL PG
theorem cut_map {α : Type} (f : α → D) (xs : List α) (l u : Option Int) : ∃ ys : List α, cutD (xs.map f) l u = ys.map f ∧ (∀ y ∈ ys, y ∈ xs) ∧ ys.length ≤ xs.length := by
  refine ⟨(xs.drop (HT.sIx xs.length 0 l)).take (HT.sIx xs.length xs.length u - HT.sIx xs.length 0 l), ?_, fun y hy => List.mem_of_mem_drop (List.mem_of_mem_take hy), by rw [List.length_take, List.length_drop]; omega⟩
  unfold cutD
  rw [List.length_map, List.map_take, List.map_drop]
/-- a part and the rest, exchanged: no more items than before -/
theorem turn_len {α : Type} (f : α → D) (xs : List α) {k : Int} (h0 : 0 ≤ k) : ∃ ys : List α, cutD (xs.map f) (some k) none ++ cutD (xs.map f) none (some k) = ys.map f ∧ (∀ y ∈ ys, y ∈ xs) ∧ ys.length = xs.length := by
  obtain ⟨j, rfl⟩ := Int.eq_ofNat_of_zero_le h0
  refine ⟨xs.drop (min j xs.length) ++ xs.take (min j xs.length), ?_, fun y hy => ?_, ?_⟩
  · unfold cutD
    rw [HT.sIx_none, HT.sIx_none, HT.sIx_nat, HT.sIx_nat, List.length_map, List.map_append, List.map_drop, List.map_take, List.drop_zero, Nat.sub_zero]
    congr 1
    exact List.take_of_length_le (by rw [List.length_drop, List.length_map]; exact Nat.le_refl _)
  · rcases List.mem_append.mp hy with h | h
    · exact List.mem_of_mem_drop h
    · exact List.mem_of_mem_take h
  · rw [List.length_append, List.length_drop, List.length_take]; omega
theorem nowhere_nm : Nm "nowhere" := nm_dec (by decide)
theorem x_nm : Nm "x" := nm_dec (by decide)
end LK

set_option linter.all false
set_option maxRecDepth 100000
set_option maxHeartbeats 4000000
/-! K79: loosened pairs. -/
namespace LK
open PySem PySem.Spec L2 PL PG
theorem fla_shp : ∀ (n : Nat) (d : D), Fla n d → Shp n d := by
  intro n
  induction n with
  | zero =>
    intro d h
    cases d with
    | non => exact shp_non
    | bl b => exact shp_bl
    | int i => exact shp_int
    | str x => exact shp_str h
    | tup ds => exact h.elim
    | lst ds => exact h.elim
    | frz ds => exact h.elim
    | ref ds => exact h.elim
  | succ n ih =>
    intro d h
    cases d with
    | non => exact shp_non.mono (Nat.zero_le _)
    | bl b => exact shp_bl.mono (Nat.zero_le _)
    | int i => exact shp_int.mono (Nat.zero_le _)
    | str x => exact (shp_str h).mono (Nat.zero_le _)
    | tup ds => exact shp_tup fun d hd => ih d (h.2 d hd)
    | lst ds => exact h.elim
    | frz ds => exact h.elim
    | ref ds => exact h.elim
theorem pr_parts {ps : List Pty} {cs : List (List Str)} (hp : ∀ p ∈ ps, PaOk p) (hc : ∀ c ∈ cs, ChOk c) (hpl : ps.length ≤ 8) (hcl : cs.length ≤ 20) : (D.tup (ps.map paD)).shp = true ∧ (D.tup (cs.map chD)).shp = true := by
  have h := (fla_pr hp hc hpl hcl).2
  exact ⟨(fla_shp 8 _ (h _ (by simp))).shp, (fla_shp 8 _ (h _ (by simp))).shp⟩
theorem spec_loose {n : Nat} {ps : List Pty} {cs : List (List Str)} {Q : D → Sto → Prop} {st : Sto} (hF : FOk n st) (hp : ∀ p ∈ ps, PaOk p) (hp8 : ∀ p ∈ ps, p.as.length ≤ 8) (hc : ∀ c ∈ cs, ChOk c) (hpl : ps.length ≤ 8) (hcl : cs.length ≤ 20)
    (q : ∀ (ps' : List Pty) (cs' : List (List Str)) (st' : Sto), (∀ p ∈ ps', PaOk p) → (∀ c ∈ cs', ChOk c) → ps'.length ≤ 8 → cs'.length ≤ 20 → FOk n st' → Same n st st' → Q (prD ps' cs') st') :
    wp (m__law_loose [.ref n, prD ps cs]) Q st := by
  refine w_run' [.val (.ref n), .val (prD ps cs), .no, .no, .no, .no, .no, .no, .no, .no, .no, .no, .no, .no, .no] rfl ?_
  unfold s__law_loose
  obtain ⟨sh1, sh2⟩ := pr_parts hp hc hpl hcl
  have shn : (D.tup []).shp = true := by decide
  refine w_seq (w_un (w_var rfl ⟨[.val (.ref n), .val (prD ps cs), .val (.tup (ps.map paD)), .val (.tup (cs.map chD)), .no, .no, .no, .no, .no, .no, .no, .no, .no, .no, .no], by simp [Pt.set, setAll, prD], ?_⟩))
  subst_eqs
  refine ⟨rfl, spec_draw hF (by omega) (by rw [List.length_map]; omega) fun k1 s1 k10 k11 f1 m1 => ?_⟩
  subst_eqs
  refine ⟨rfl, spec_draw f1 (by omega) (by rw [List.length_map]; omega) fun k2 s2 k20 k21 f2 m2 => ?_⟩
  -- the end: both rows turned
  have fin : ∀ (ps' : List Pty) (cs' : List (List Str)) (s : Sto) (b6 b7 b8 b9 b10 b11 b12 b13 b14 : Slot), (∀ p ∈ ps', PaOk p) → (∀ c ∈ cs', ChOk c) → ps'.length ≤ 8 → cs'.length ≤ 20 → FOk n s → Same n st s →
      wp (sRet (eTup (aCons (e2 addM (eSl (eVar 2) (oSo (eVar 4)) oNo) (eSl (eVar 2) oNo (oSo (eVar 4)))) (aCons (e2 addM (eSl (eVar 3) (oSo (eVar 5)) oNo) (eSl (eVar 3) oNo (oSo (eVar 5)))) (aNil)))) [.val (.ref n), .val (prD ps cs), .val (.tup (ps'.map paD)), .val (.tup (cs'.map chD)), .val (.int k1), .val (.int k2), b6, b7, b8, b9, b10, b11, b12, b13, b14]) (RunK Q) s := by
    intro ps' cs' s b6 b7 b8 b9 b10 b11 b12 b13 b14 o1 o2 o3 o4 o5 o6
    obtain ⟨ps2, e1, e2, e3⟩ := turn_len paD ps' k10
    obtain ⟨cs2, e4, e5, e6⟩ := turn_len chD cs' k20
    have l1 := congrArg List.length e1
    have l2 := congrArg List.length e4
    rw [List.length_append, List.length_map] at l1 l2
    subst_eqs
    refine w_addT (small (by omega)) ?_
    subst_eqs
    refine w_addT (small (by omega)) ?_
    subst_eqs
    refine ⟨by show 2 ≤ sizeLine; decide, ?_⟩
    subst_eqs
    rw [e1, e4]
    exact q ps2 cs2 s (fun p h => o1 p (e2 p h)) (fun c h => o2 c (e5 c h)) (by omega) (by omega) o5 o6
  -- behind the first choice
  have mid : ∀ (ps' : List Pty) (s : Sto) (b6 b7 b8 b9 b10 : Slot), (∀ p ∈ ps', PaOk p) → ps'.length ≤ 8 → FOk n s → Same n st s →
      wp (sSeq (sIf (tAn (tBl (e2 eqM (eCall 2 PG.m_law_draw (aCons (eVar 0) (aCons (eC (.int 2)) (aNil)))) (eC (.int 0)))) (tBl (e2 neM (eVar 3) (eTup (aNil))))) (sSeq (sUn (.tp [11, 12, 13, 14]) (eCall 2 PG.m_law_pick (aCons (eVar 0) (aCons (eVar 3) (aNil))))) (sSet 3 (e2 addM (eSl (eVar 3) (oSo (eC (.int 1))) oNo) (eTup (aCons (eTup (aCons (eVar 11) (aCons (eVar 12) (aCons (eVar 12) (aCons (eVar 14) (aNil)))))) (aNil)))))) (sNil)) (sRet (eTup (aCons (e2 addM (eSl (eVar 2) (oSo (eVar 4)) oNo) (eSl (eVar 2) oNo (oSo (eVar 4)))) (aCons (e2 addM (eSl (eVar 3) (oSo (eVar 5)) oNo) (eSl (eVar 3) oNo (oSo (eVar 5)))) (aNil))))) [.val (.ref n), .val (prD ps cs), .val (.tup (ps'.map paD)), .val (.tup (cs.map chD)), .val (.int k1), .val (.int k2), b6, b7, b8, b9, b10, .no, .no, .no, .no]) (RunK Q) s := by
    intro ps' s b6 b7 b8 b9 b10 o1 o3 o5 o6
    subst_eqs
    refine ⟨rfl, spec_draw o5 (by decide) (by decide) fun z t _ _ ft mt => ?_⟩
    subst_eqs
    refine w_eq shp_int.shp shp_int.shp ?_
    refine k_bl (k_if (fun _ => ?_) fun _ => ?_)
    · subst_eqs
      refine ⟨by decide, w_ne sh2 shn ?_⟩
      rw [eqv_tt, eqvL_nil]
      refine k_bl (k_if (fun hb => ?_) fun _ => ?_)
      · have hne : cs.map chD ≠ [] := fun e => by rw [e] at hb; exact absurd hb (by decide)
        refine w_seq (w_un (w_call (w_aC (w_var rfl (w_aC (w_var rfl (w_aN ⟨rfl, spec_pickT ft hne (by rw [List.length_map]; omega) fun x t2 hx ft2 mt2 => ?_⟩)))))))
        obtain ⟨c, hcm, rfl⟩ := List.mem_map.mp hx
        obtain ⟨x, y, w, f, rfl, hx', hy, hw, hf⟩ := hc c hcm
        refine ⟨[.val (.ref n), .val (prD ps cs), .val (.tup (ps'.map paD)), .val (.tup (cs.map chD)), .val (.int k1), .val (.int k2), b6, b7, b8, b9, b10, .val (.str x), .val (.str y), .val (.str w), .val (.str f)], by simp [Pt.set, setAll, chD], ?_⟩
        obtain ⟨ys, e1, e2, e3⟩ := cut_map chD cs (some 1) none
        have e4 : (cutD (cs.map chD) (some 1) none).length + 1 ≤ 20 := by
          have h1 : 0 < cs.length := List.length_pos_of_mem hcm
          unfold cutD
          rw [HT.sIx_none]
          show (List.take _ (List.drop (HT.sIx _ 0 (some ((1 : Nat) : Int))) _)).length + 1 ≤ 20
          rw [HT.sIx_nat, List.length_take, List.length_drop, List.length_map]
          omega
        subst_eqs
        refine ⟨by show 4 ≤ sizeLine; decide, ?_⟩
        subst_eqs
        refine ⟨by show 1 ≤ sizeLine; decide, ?_⟩
        refine w_addT (small (by show _ + 1 ≤ 1000000; omega)) ?_
        rw [e1] at e4 ⊢
        rw [List.length_map] at e4
        have e5 : ys.map chD ++ [D.tup [.str x, .str y, .str y, .str f]] = (ys ++ [[x, y, y, f]]).map chD := by rw [List.map_append]; rfl
        rw [e5]
        refine k_seq (fin ps' (ys ++ [[x, y, y, f]]) t2 b6 b7 b8 b9 b10 (.val (.str x)) (.val (.str y)) (.val (.str w)) (.val (.str f)) o1 (fun c' h => ?_) o3 (by rw [List.length_append, List.length_singleton]; exact e4) ft2 ((o6.trans mt).trans mt2))
        rcases List.mem_append.mp h with h | h
        · exact hc c' (e2 c' h)
        · rw [List.mem_singleton.mp h]; exact ⟨x, y, y, f, rfl, hx', hy, hy, hf⟩
      · exact w_nil (k_seq (fin ps' cs t _ _ _ _ _ _ _ _ _ o1 hc o3 hcl ft (o6.trans mt)))
    · exact k_ifF (w_nil (k_seq (fin ps' cs t _ _ _ _ _ _ _ _ _ o1 hc o3 hcl ft (o6.trans mt))))
  subst_eqs
  refine ⟨rfl, spec_draw f2 (by decide) (by decide) fun z t _ _ ft mt => ?_⟩
  have m12 := (m1.trans m2).trans mt
  subst_eqs
  refine w_eq shp_int.shp shp_int.shp ?_
  refine k_bl (k_if (fun _ => ?_) fun _ => ?_)
  · subst_eqs
    refine ⟨by decide, w_ne sh1 shn ?_⟩
    rw [eqv_tt, eqvL_nil]
    refine k_bl (k_if (fun hb => ?_) fun _ => ?_)
    · have hne : ps.map paD ≠ [] := fun e => by rw [e] at hb; exact absurd hb (by decide)
      refine w_seq (w_un (w_call (w_aC (w_var rfl (w_aC (w_var rfl (w_aN ⟨rfl, spec_pickT ft hne (by rw [List.length_map]; omega) fun x t2 hx ft2 mt2 => ?_⟩)))))))
      obtain ⟨p, hpm, rfl⟩ := List.mem_map.mp hx
      have ok := hp p hpm
      have h8 := hp8 p hpm
      refine ⟨[.val (.ref n), .val (prD ps cs), .val (.tup (ps.map paD)), .val (.tup (cs.map chD)), .val (.int k1), .val (.int k2), .val (.str p.nm), .val (.tup (p.es.map D.int)), .val (.tup (p.as.map arD)), .no, .no, .no, .no, .no, .no], by simp [Pt.set, setAll, paD], ?_⟩
      subst_eqs
      refine ⟨by show 2 ≤ sizeLine; decide, ?_⟩
      subst_eqs
      refine ⟨rfl, spec_pick ft2 (by decide) (by decide) fun w t3 hw ft3 mt3 => ?_⟩
      obtain ⟨wd, rfl, hwd⟩ : ∃ wd : Str, w = .str wd ∧ (wd = ("put" : Str) ∨ wd = ("take" : Str)) := by
        simp only [List.mem_cons, List.not_mem_nil, or_false] at hw
        rcases hw with rfl | rfl
        · exact ⟨_, rfl, .inl rfl⟩
        · exact ⟨_, rfl, .inr rfl⟩
      subst_eqs
      refine ⟨by show 3 ≤ sizeLine; decide, ?_⟩
      subst_eqs
      refine ⟨rfl, spec_draw ft3 (by decide) (by decide) fun z1 t4 a1 b1 ft4 mt4 => ?_⟩
      subst_eqs
      refine ⟨rfl, spec_draw ft4 (by decide) (by decide) fun z2 t5 a2 b2 ft5 mt5 => ?_⟩
      subst_eqs
      refine ⟨by show 3 ≤ sizeLine; decide, ?_⟩
      subst_eqs
      refine ⟨by show 1 ≤ sizeLine; decide, ?_⟩
      refine w_addT (small (by rw [List.length_map]; show p.as.length + 1 ≤ 1000000; omega)) ?_
      subst_eqs
      obtain ⟨as1, g1, g2, g3⟩ := cut_map arD p.as none (some 1)
      have g4 : as1.length ≤ 8 := by omega
      rw [g1]
      refine w_addT (small (by simp only [List.length_append, List.length_map, List.length_cons, List.length_nil]; omega)) ?_
      subst_eqs
      refine ⟨by show 3 ≤ sizeLine; decide, ?_⟩
      subst_eqs
      refine ⟨by show 1 ≤ sizeLine; decide, ?_⟩
      obtain ⟨ys, e1, e2, e3⟩ := cut_map paD ps (some 1) none
      have e4 : (cutD (ps.map paD) (some 1) none).length + 1 ≤ 8 := by
        have h1 : 0 < ps.length := List.length_pos_of_mem hpm
        unfold cutD
        rw [HT.sIx_none]
        show (List.take _ (List.drop (HT.sIx _ 0 (some ((1 : Nat) : Int))) _)).length + 1 ≤ 8
        rw [HT.sIx_nat, List.length_take, List.length_drop, List.length_map]
        omega
      refine w_addT (small (by show _ + 1 ≤ 1000000; omega)) ?_
      rw [e1] at e4 ⊢
      rw [List.length_map] at e4
      let na : Int × List Str × Int := (z1, [wd, "nowhere", "x"], z2)
      let np : Pty := ⟨p.nm, p.es, p.as ++ [na] ++ as1⟩
      have e5 : ys.map paD ++ [D.tup [.str p.nm, .tup (p.es.map D.int), .tup (p.as.map arD ++ [D.tup [.int z1, .tup [.str wd, .str "nowhere", .str "x"], .int z2]] ++ as1.map arD)]] = (ys ++ [np]).map paD := by
        rw [List.map_append]
        show _ = _ ++ [D.tup [.str p.nm, .tup (p.es.map D.int), .tup ((p.as ++ [na] ++ as1).map arD)]]
        rw [List.map_append, List.map_append]
        rfl
      rw [e5]
      have ona : ArOk na := ⟨⟨a1, by show z1 < _; omega⟩, .inr ⟨wd, "nowhere", "x", hwd, nowhere_nm, x_nm, rfl⟩, ⟨a2, by show z2 < _; omega⟩⟩
      have onp : PaOk np := ⟨ok.n, ok.r, ok.e, ok.el, fun a ha => by
        rcases List.mem_append.mp ha with ha | ha
        · rcases List.mem_append.mp ha with ha | ha
          · exact ok.a a ha
          · rw [List.mem_singleton.mp ha]; exact ona
        · exact ok.a a (g2 a ha), by show (p.as ++ [na] ++ as1).length ≤ 20; simp only [List.length_append, List.length_singleton]; omega⟩
      refine k_seq (mid (ys ++ [np]) t5 _ _ _ _ _ (fun p' h => ?_) (by rw [List.length_append, List.length_singleton]; exact e4) ft5 ((((m12.trans mt2).trans mt3).trans mt4).trans mt5))
      rcases List.mem_append.mp h with h | h
      · exact hp p' (e2 p' h)
      · rw [List.mem_singleton.mp h]; exact onp
    · exact w_nil (k_seq (mid ps t _ _ _ _ _ hp hpl ft m12))
  · exact k_ifF (w_nil (k_seq (mid ps t _ _ _ _ _ hp hpl ft m12)))
end LK

set_option linter.all false
set_option maxRecDepth 100000
set_option maxHeartbeats 4000000
/-! K80: the law. -/
namespace LK
open PySem PySem.Spec L2 PL PG
def PrOk (d : D) : Prop := ∃ ps cs, d = prD ps cs ∧ (∀ p ∈ ps, PaOk p) ∧ (∀ c ∈ cs, ChOk c) ∧ ps.length ≤ 8 ∧ cs.length ≤ 20
theorem pa_data8 {d : D} (h : Pa d) : ∃ p, (PaOk p ∧ p.as.length ≤ 8) ∧ d = paD p := by
  obtain ⟨a, es, as, ⟨x, rfl, hx⟩, h1, h2, h3, h4, h5, rfl⟩ := h
  obtain ⟨xs, hxs, rfl, hl⟩ := list_data (fun d => ar_data) h4
  exact ⟨⟨x, es, xs⟩, ⟨⟨hx, h1, h2, h3, hxs, by show xs.length ≤ 20; omega⟩, by show xs.length ≤ 8; omega⟩, rfl⟩
theorem pr_data {d : D} (h : Pr d) : ∃ ps cs, d = prD ps cs ∧ (∀ p ∈ ps, PaOk p) ∧ (∀ p ∈ ps, p.as.length ≤ 8) ∧ (∀ c ∈ cs, ChOk c) ∧ ps.length ≤ 8 ∧ cs.length ≤ 20 := by
  obtain ⟨ps, cs, h1, h2, h3, h4, rfl⟩ := h
  obtain ⟨xs, hx, rfl, hl⟩ := list_data (fun d => pa_data8) h1
  obtain ⟨ys, hy, rfl, hm⟩ := list_data (fun d => ch_data) h3
  exact ⟨xs, ys, rfl, fun p hp => (hx p hp).1, fun p hp => (hx p hp).2, hy, by omega, by omega⟩
theorem prok_nil : PrOk (.tup [.tup [], .tup []]) := ⟨[], [], rfl, fun _ h => absurd h List.not_mem_nil, fun _ h => absurd h List.not_mem_nil, Nat.zero_le _, Nat.zero_le _⟩
theorem prok_own {x : Str} (h : Nm x) : PrOk (.tup [.tup [.tup [.str x, .tup [.int 0], .tup []], .tup [.str x, .tup [], .tup []], .tup [.str x, .tup [.int 9, .int 10, .int (10 ^ Int.toNat 59)], .tup []]], .tup [.tup [.str x, .str x, .str x, .str "call"]]]) := by
  have e59 : (10 : Int) ^ Int.toNat 59 = 100000000000000000000000000000000000000000000000000000000000 := by decide
  rw [e59]
  refine ⟨[⟨x, [0], []⟩, ⟨x, [], []⟩, ⟨x, [9, 10, 100000000000000000000000000000000000000000000000000000000000], []⟩], [[x, x, x, "call"]], rfl, fun p hp => ?_, fun c hc => ?_, by show 3 ≤ 8; decide, by show 1 ≤ 20; decide⟩
  · have no : ∀ a ∈ ([] : List (Int × List Str × Int)), ArOk a := fun _ h => absurd h List.not_mem_nil
    simp only [List.mem_cons, List.not_mem_nil, or_false] at hp
    rcases hp with rfl | rfl | rfl
    · exact ⟨h, List.pairwise_singleton _ _, fun e he => by rw [List.mem_singleton.mp he]; exact ⟨by decide, by decide⟩, by show 1 ≤ 8; decide, no, by show 0 ≤ 20; decide⟩
    · exact ⟨h, .nil, fun e he => absurd he List.not_mem_nil, by show 0 ≤ 8; decide, no, by show 0 ≤ 20; decide⟩
    · refine ⟨h, (by decide : List.Pairwise (· < ·) [(9 : Int), 10, 100000000000000000000000000000000000000000000000000000000000]), fun e he => ?_, by show 3 ≤ 8; decide, no, by show 0 ≤ 20; decide⟩
      simp only [List.mem_cons, List.not_mem_nil, or_false] at he
      rcases he with rfl | rfl | rfl <;> exact ⟨by decide, by decide⟩
  · rw [List.mem_singleton.mp hc]
    exact ⟨x, x, x, "call", rfl, h, h, h, .inr (.inr rfl)⟩
def DoD (d : D) : Prop := ∃ ws, DoW ws ∧ d = .tup (ws.map D.str)
theorem law_wp (ns : List Int) (hl : ns.length ≤ 63) : wp (m_law [.frz (ns.map D.int)]) (fun d _ => d = .bl true) [] := by
  refine w_run' [.val (.frz (ns.map D.int)), .no, .no, .no, .no, .no, .no, .no, .no] rfl ?_
  unfold s_law
  subst_eqs
  refine ⟨rfl, spec_feed hl fun s1 f1 _ => ?_⟩
  have f1 : FOk 0 s1 := f1
  subst_eqs
  refine ⟨by show 0 ≤ sizeLine; decide, ?_⟩
  subst_eqs
  refine ⟨by show 0 ≤ sizeLine; decide, ?_⟩
  subst_eqs
  refine ⟨by show 2 ≤ sizeLine; decide, ?_⟩
  subst_eqs
  refine ⟨by show 1 ≤ sizeLine; decide, ?_⟩
  refine k_seq (w_seq (w_for ?_))
  subst_eqs
  refine ⟨_, rfl, w_rangeN (n := 3) (by decide) ?_⟩
  refine for_each (fun j ρ s => ∃ x3 x4 prs, ρ = [.val (.frz (ns.map D.int)), .val (.ref 0), .own prs, x3, x4, .no, .no, .no, .no] ∧ (∀ d ∈ prs, PrOk d) ∧ prs.length = 1 + 4 * j ∧ FOk 0 s) _ 0 _ _ ?_ ?_ ?_
  · rintro m d ρ s hm ⟨x3, x4, prs, rfl, hprs, hlen, fs⟩
    have hm3 := (List.getElem?_eq_some_iff.mp hm).1
    rw [List.length_map, List.length_range] at hm3
    refine ⟨_, set_nm (by simp), ?_⟩
    subst_eqs
    refine ⟨rfl, spec_built fs fun x s2 hx f2 _ => ?_⟩
    obtain ⟨ps, cs, rfl, a1, a2, a3, a4, a5⟩ := pr_data hx
    subst_eqs
    refine ⟨rfl, spec_loose f2 a1 a2 a3 a4 a5 fun ps' cs' s3 b1 b2 b3 b4 f3 _ => ?_⟩
    subst_eqs
    refine w_ixT (d := .tup (ps.map paD)) (atI_nat (j := 0) rfl) ?_
    subst_eqs
    refine ⟨by show 0 ≤ sizeLine; decide, ?_⟩
    subst_eqs
    refine ⟨by show 2 ≤ sizeLine; decide, ?_⟩
    subst_eqs
    refine ⟨by show 0 ≤ sizeLine; decide, ?_⟩
    subst_eqs
    refine w_ixT (d := .tup (cs.map chD)) (atI_nat (j := 1) rfl) ?_
    subst_eqs
    refine ⟨by show 2 ≤ sizeLine; decide, ?_⟩
    subst_eqs
    refine ⟨by show 4 ≤ sizeLine; decide, _, rfl, small (by simp only [List.length_cons, List.length_nil]; omega), rfl, _, _, _, rfl, fun d hd => ?_, by rw [List.length_append]; simp only [List.length_cons, List.length_nil]; omega, f3⟩
    rcases List.mem_append.mp hd with h | h
    · exact hprs d h
    · simp only [List.mem_cons, List.not_mem_nil, or_false] at h
      rcases h with rfl | rfl | rfl | rfl
      · exact ⟨ps, cs, rfl, a1, a3, a4, a5⟩
      · exact ⟨ps', cs', rfl, b1, b2, b3, b4⟩
      · exact ⟨ps, [], rfl, a1, fun _ h => absurd h List.not_mem_nil, a4, Nat.zero_le _⟩
      · exact ⟨[], cs, rfl, fun _ h => absurd h List.not_mem_nil, a3, Nat.zero_le _, a5⟩
  · exact ⟨_, _, _, rfl, fun d hd => by rw [List.mem_singleton.mp hd]; exact prok_nil, rfl, f1⟩
  · rintro ρ s ⟨x3, x4, prs, rfl, hprs, hlen, fs⟩
    rw [List.length_map, List.length_range] at hlen
    subst_eqs
    refine ⟨rfl, spec_names fs (by decide) (by decide) fun xs s2 hxs hxl f2 _ => ?_⟩
    obtain ⟨nd, hnd, hndm⟩ := atI_lt (xs := xs) (i := 0) (by decide) (by rw [hxl]; decide)
    subst_eqs
    refine w_ixL hnd ?_
    obtain ⟨nm, rfl, hnm⟩ := hxs nd hndm
    iterate 13 ((subst_eqs); (first | refine ⟨small (by simp), ?_⟩ | (refine w_int2 (decide_eq_true ⟨by decide, by decide, by decide⟩) ?_; subst_eqs; refine ⟨small (by simp), ?_⟩)))
    refine ⟨small (by omega), ?_⟩
    have hown := prok_own hnm
    generalize hpo : (D.tup [.tup [.tup [.str nm, .tup [.int 0], .tup []], .tup [.str nm, .tup [], .tup []], .tup [.str nm, .tup [.int 9, .int 10, .int (10 ^ Int.toNat 59)], .tup []]], .tup [.tup [.str nm, .str nm, .str nm, .str "call"]]]) = po at hown
    have hall : ∀ d ∈ prs ++ [po], PrOk d := fun d hd => by
      rcases List.mem_append.mp hd with h | h
      · exact hprs d h
      · rw [List.mem_singleton.mp h]; exact hown
    refine k_seq (w_seq (w_frz (w_for ?_)))
    refine w_iSeq (w_var (d := .lst (prs ++ [po])) (by simp [frz1, hpo]) ⟨_, rfl, ?_⟩)
    refine for_each (fun j ρ s => ∃ x6, ρ = [.val (.frz (ns.map D.int)), .val (.ref 0), .val (.lst (prs ++ [po])), x3, x4, .val (.str nm), x6, .no, .no]) _ 0 _ _ ?_ ?_ ?_
    · rintro m d ρ s hm ⟨x6, rfl⟩
      refine ⟨_, set_nm (by simp), ?_⟩
      obtain ⟨ps, cs, rfl, a1, a3, a4, a5⟩ := hall d (List.mem_of_getElem? hm)
      subst_eqs
      refine ⟨rfl, spec_pairright a1 a3 a4 a5 fun s' _ => ?_⟩
      subst_eqs
      exact ⟨rfl, _, rfl⟩
    · exact ⟨.no, by simp [frz1, hpo]⟩
    · rintro ρ s ⟨x6, rfl⟩
      iterate 5 ((subst_eqs); (refine ⟨small (by simp), ?_⟩))
      refine k_seq (w_seq (w_for ?_))
      subst_eqs
      refine ⟨_, rfl, ?_⟩
      have hcl : (cutD (prs ++ [po]) (some 1) (some 3)).length ≤ 2 := by
        unfold cutD
        show (List.take (HT.sIx _ _ (some ((3 : Nat) : Int)) - HT.sIx _ 0 (some ((1 : Nat) : Int))) _).length ≤ 2
        rw [HT.sIx_nat, HT.sIx_nat, List.length_take]
        omega
      refine for_each (fun j ρ s => ∃ x6 out, ρ = [.val (.frz (ns.map D.int)), .val (.ref 0), .val (.lst (prs ++ [po])), x3, x4, .val (.str nm), x6, .own out, .no] ∧ (∀ d ∈ out, DoD d) ∧ out.length ≤ 4 + 160 * j) _ 0 _ _ ?_ ?_ ?_
      · rintro m d ρ s hm ⟨x6, out, rfl, hout, hol⟩
        have hm2 := (List.getElem?_eq_some_iff.mp hm).1
        refine ⟨_, set_nm (by simp), ?_⟩
        obtain ⟨ps, cs, rfl, a1, a3, a4, a5⟩ := hall d (cut_mem (List.mem_of_getElem? hm))
        refine w_ext rfl (w_call ?_)
        subst_eqs
        refine ⟨rfl, spec_doingsof a1 a4 fun ws hws hwl => ?_⟩
        refine ⟨_, rfl, small (by rw [List.length_map]; omega), rfl, _, _, rfl, fun d hd => ?_, by rw [List.length_append, List.length_map]; omega⟩
        rcases List.mem_append.mp hd with h | h
        · exact hout d h
        · obtain ⟨w, hw, rfl⟩ := List.mem_map.mp h
          exact ⟨w, hws w hw, rfl⟩
      · refine ⟨_, _, rfl, fun d hd => ?_, by simp⟩
        simp only [List.mem_cons, List.not_mem_nil, or_false] at hd
        rcases hd with rfl | rfl | rfl | rfl
        · exact ⟨["do", nm], .inl ⟨nm, hnm, rfl⟩, rfl⟩
        · exact ⟨["put", nm, nm], .inr ⟨"put", nm, nm, .inl rfl, hnm, hnm, rfl⟩, rfl⟩
        · exact ⟨["take", nm, "do"], .inr ⟨"take", nm, "do", .inr rfl, hnm, do_nm, rfl⟩, rfl⟩
        · exact ⟨["put", "put", "put"], .inr ⟨"put", "put", "put", .inl rfl, put_nm, put_nm, rfl⟩, rfl⟩
      · rintro ρ s ⟨x6, out, rfl, hout, hol⟩
        refine k_seq (w_frz (w_ret (w_e2 (w_eL (w_lc (w_iSeq (w_var (d := .lst out) (by simp [frz1]) ⟨_, rfl, ?_⟩)))))))
        refine lc_filter (by simp [wipeE, frz1]) (fun _ => false) _ _ (fun d hd T k => ?_) ?_
        · obtain ⟨ws, hws, rfl⟩ := hout d hd
          subst_eqs
          refine ⟨rfl, spec_doright hws ?_⟩
          subst_eqs
          exact k
        · have e0 : List.filter (fun _ => false) out = [] := by simp
          rw [e0]
          subst_eqs
          refine ⟨by decide, w_eq shp_nil shp_nil ?_⟩
          have : (D.lst []).eqv (.lst []) = true := by rw [eqv_ll]; rfl
          rw [this]
          subst_eqs
          rfl
theorem law_ok : ∀ ns : List Int, ns.length ≤ 63 → ∃ st, m_law [.frz (ns.map D.int)] [] = .ok (.bl true) st := by
  intro ns hl
  obtain ⟨d, s, e, h⟩ := wp_ok (law_wp ns hl)
  subst h
  exact ⟨s, e⟩
end LK

set_option linter.all false
set_option maxRecDepth 100000
set_option maxHeartbeats 4000000
namespace LK
open PySem PySem.Spec L2 PL
theorem all_mk {P : Program} {w : World} {K : PySem.W.Frag} {h : Heap} {mg : Str → Option Value} {fa : Addr} (X : K.In h) (N : h.Ns mainGlobals mg) (hfa : mg "law" = some (.ref fa))
    {eC0 eI0 : Addr} {eoc0 ekv0 edc0 epm0 ecd0 ect0 : Value} {eod0 ean0 : Option Addr} {esl0 : Array (Option Value)}
    {f0 : Addr} {oc0 : Value} {od0 an0 : Option Addr} {sl0 : Array (Option Value)} {kv0 dc0 pm0 cd0 ct0 : Value}
    {f1 : Addr} {oc1 : Value} {od1 an1 : Option Addr} {sl1 : Array (Option Value)} {kv1 dc1 pm1 cd1 ct1 : Value}
    {f2 : Addr} {oc2 : Value} {od2 an2 : Option Addr} {sl2 : Array (Option Value)} {kv2 dc2 pm2 cd2 ct2 : Value}
    {f3 : Addr} {oc3 : Value} {od3 an3 : Option Addr} {sl3 : Array (Option Value)} {kv3 dc3 pm3 cd3 ct3 : Value}
    {f4 : Addr} {oc4 : Value} {od4 an4 : Option Addr} {sl4 : Array (Option Value)} {kv4 dc4 pm4 cd4 ct4 : Value}
    {f5 : Addr} {oc5 : Value} {od5 an5 : Option Addr} {sl5 : Array (Option Value)} {kv5 dc5 pm5 cd5 ct5 : Value}
    {f6 : Addr} {oc6 : Value} {od6 an6 : Option Addr} {sl6 : Array (Option Value)} {kv6 dc6 pm6 cd6 ct6 : Value}
    {f7 : Addr} {oc7 : Value} {od7 an7 : Option Addr} {sl7 : Array (Option Value)} {kv7 dc7 pm7 cd7 ct7 : Value}
    {f8 : Addr} {oc8 : Value} {od8 an8 : Option Addr} {sl8 : Array (Option Value)} {kv8 dc8 pm8 cd8 ct8 : Value}
    {f9 : Addr} {oc9 : Value} {od9 an9 : Option Addr} {sl9 : Array (Option Value)} {kv9 dc9 pm9 cd9 ct9 : Value}
    {f10 : Addr} {oc10 : Value} {od10 an10 : Option Addr} {sl10 : Array (Option Value)} {kv10 dc10 pm10 cd10 ct10 : Value}
    {f11 : Addr} {oc11 : Value} {od11 an11 : Option Addr} {sl11 : Array (Option Value)} {kv11 dc11 pm11 cd11 ct11 : Value}
    {f12 : Addr} {oc12 : Value} {od12 an12 : Option Addr} {sl12 : Array (Option Value)} {kv12 dc12 pm12 cd12 ct12 : Value}
    {f13 : Addr} {oc13 : Value} {od13 an13 : Option Addr} {sl13 : Array (Option Value)} {kv13 dc13 pm13 cd13 ct13 : Value}
    {f14 : Addr} {oc14 : Value} {od14 an14 : Option Addr} {sl14 : Array (Option Value)} {kv14 dc14 pm14 cd14 ct14 : Value}
    {f15 : Addr} {oc15 : Value} {od15 an15 : Option Addr} {sl15 : Array (Option Value)} {kv15 dc15 pm15 cd15 ct15 : Value}
    {f16 : Addr} {oc16 : Value} {od16 an16 : Option Addr} {sl16 : Array (Option Value)} {kv16 dc16 pm16 cd16 ct16 : Value}
    {f17 : Addr} {oc17 : Value} {od17 an17 : Option Addr} {sl17 : Array (Option Value)} {kv17 dc17 pm17 cd17 ct17 : Value}
    {f18 : Addr} {oc18 : Value} {od18 an18 : Option Addr} {sl18 : Array (Option Value)} {kv18 dc18 pm18 cd18 ct18 : Value}
    {f19 : Addr} {oc19 : Value} {od19 an19 : Option Addr} {sl19 : Array (Option Value)} {kv19 dc19 pm19 cd19 ct19 : Value}
    {f20 : Addr} {oc20 : Value} {od20 an20 : Option Addr} {sl20 : Array (Option Value)} {kv20 dc20 pm20 cd20 ct20 : Value}
    {f21 : Addr} {oc21 : Value} {od21 an21 : Option Addr} {sl21 : Array (Option Value)} {kv21 dc21 pm21 cd21 ct21 : Value}
    {f22 : Addr} {oc22 : Value} {od22 an22 : Option Addr} {sl22 : Array (Option Value)} {kv22 dc22 pm22 cd22 ct22 : Value}
    {f23 : Addr} {oc23 : Value} {od23 an23 : Option Addr} {sl23 : Array (Option Value)} {kv23 dc23 pm23 cd23 ct23 : Value}
    {f24 : Addr} {oc24 : Value} {od24 an24 : Option Addr} {sl24 : Array (Option Value)} {kv24 dc24 pm24 cd24 ct24 : Value}
    {f25 : Addr} {oc25 : Value} {od25 an25 : Option Addr} {sl25 : Array (Option Value)} {kv25 dc25 pm25 cd25 ct25 : Value}
    {f26 : Addr} {oc26 : Value} {od26 an26 : Option Addr} {sl26 : Array (Option Value)} {dc26 pm26 cd26 ct26 : Value}
    {kd26 : Addr} {kt26_0 : Tok} {kt26_1 : Tok}
    {f27 : Addr} {oc27 : Value} {od27 an27 : Option Addr} {sl27 : Array (Option Value)} {kv27 dc27 pm27 cd27 ct27 : Value}
    {f28 : Addr} {oc28 : Value} {od28 an28 : Option Addr} {sl28 : Array (Option Value)} {kv28 dc28 pm28 cd28 ct28 : Value}
    {f29 : Addr} {oc29 : Value} {od29 an29 : Option Addr} {sl29 : Array (Option Value)} {kv29 dc29 pm29 cd29 ct29 : Value}
    {f30 : Addr} {oc30 : Value} {od30 an30 : Option Addr} {sl30 : Array (Option Value)} {kv30 dc30 pm30 cd30 ct30 : Value}
    {f31 : Addr} {oc31 : Value} {od31 an31 : Option Addr} {sl31 : Array (Option Value)} {kv31 dc31 pm31 cd31 ct31 : Value}
    {gt0 : Tok}
    {gT1 : Addr} {gd1 : Option Addr} {gs1 : Array (Option Value)} {gn1 : Nat} {gt1_0 : Tok} {gt1_1 : Tok} {gt1_2 : Tok}
    {gt2 : Tok}
    {gt3 : Tok}
    (xa0 : PySem.W.nsIn K mainGlobals "InvalidText" = some (some (.ref eC0)))
    (xT0 : OexC K eC0)
    (xi0 : PySem.W.findIn K (.ref eC0) "__init__" = some (some (.ref eI0)))
    (xt0 : PySem.W.typeIn K (.ref eI0) = some (.type "function"))
    (xl0 : K.lookup eI0 = some ⟨eoc0, eod0, .func (PySem.W.fnOf "__init__" "InvalidText.__init__" (defArgs (L2.inClass (topS 7) 0)) (defBody (L2.inClass (topS 7) 0)) (defScope (L2.inClass (topS 7) 0)) .none ekv0 edc0 epm0 ean0 ecd0 ect0), esl0⟩)
    (xc0 : PySem.W.codeIn K ecd0 "InvalidText.__init__" = true)
    (xk0 : PySem.W.keepIn K (.ref eI0) = true)
    (xf0 : PySem.W.findIn K (.ref eC0) "line" = some none)
    (xg0 : PySem.W.findIn K (.ref eC0) "field" = some none)
    (xga0 : PySem.W.findIn K (.ref eC0) "__getattribute__" = some (some (.builtin "BaseException.__getattribute__")))
    (xgg0 : PySem.W.findIn K (.ref eC0) "__getattr__" = some none)
    (xhd0 : PySem.W.hasDictIn K eC0 = true)
    (xex0 : PySem.W.exmOne K (.ref eC0) (.ref eC0) = some true)
    (a0 : PySem.W.nsIn K mainGlobals "doing_text" = some (some (.ref f0)))
    (l0 : K.lookup f0 = some ⟨oc0, od0, .func (PySem.W.fnOf "doing_text" "doing_text" (defArgs (topS 1)) (defBody (topS 1)) (defScope (topS 1)) .none kv0 dc0 pm0 an0 cd0 ct0), sl0⟩)
    (c0 : PySem.W.codeIn K cd0 "doing_text" = true)
    (k0 : PySem.W.keepIn K (.ref f0) = true)
    (a1 : PySem.W.nsIn K mainGlobals "_ends_text" = some (some (.ref f1)))
    (l1 : K.lookup f1 = some ⟨oc1, od1, .func (PySem.W.fnOf "_ends_text" "_ends_text" (defArgs (topS 3)) (defBody (topS 3)) (defScope (topS 3)) .none kv1 dc1 pm1 an1 cd1 ct1), sl1⟩)
    (c1 : PySem.W.codeIn K cd1 "_ends_text" = true)
    (k1 : PySem.W.keepIn K (.ref f1) = true)
    (a2 : PySem.W.nsIn K mainGlobals "is_name" = some (some (.ref f2)))
    (l2 : K.lookup f2 = some ⟨oc2, od2, .func (PySem.W.fnOf "is_name" "is_name" (defArgs (topS 11)) (defBody (topS 11)) (defScope (topS 11)) .none kv2 dc2 pm2 an2 cd2 ct2), sl2⟩)
    (c2 : PySem.W.codeIn K cd2 "is_name" = true)
    (k2 : PySem.W.keepIn K (.ref f2) = true)
    (a3 : PySem.W.nsIn K mainGlobals "ascends" = some (some (.ref f3)))
    (l3 : K.lookup f3 = some ⟨oc3, od3, .func (PySem.W.fnOf "ascends" "ascends" (defArgs (topS 12)) (defBody (topS 12)) (defScope (topS 12)) .none kv3 dc3 pm3 an3 cd3 ct3), sl3⟩)
    (c3 : PySem.W.codeIn K cd3 "ascends" = true)
    (k3 : PySem.W.keepIn K (.ref f3) = true)
    (a4 : PySem.W.nsIn K mainGlobals "doing_kinds" = some (some (.ref f4)))
    (l4 : K.lookup f4 = some ⟨oc4, od4, .func (PySem.W.fnOf "doing_kinds" "doing_kinds" (defArgs (topS 20)) (defBody (topS 20)) (defScope (topS 20)) .none kv4 dc4 pm4 an4 cd4 ct4), sl4⟩)
    (c4 : PySem.W.codeIn K cd4 "doing_kinds" = true)
    (k4 : PySem.W.keepIn K (.ref f4) = true)
    (a5 : PySem.W.nsIn K mainGlobals "arrow_kinds" = some (some (.ref f5)))
    (l5 : K.lookup f5 = some ⟨oc5, od5, .func (PySem.W.fnOf "arrow_kinds" "arrow_kinds" (defArgs (topS 21)) (defBody (topS 21)) (defScope (topS 21)) .none kv5 dc5 pm5 an5 cd5 ct5), sl5⟩)
    (c5 : PySem.W.codeIn K cd5 "arrow_kinds" = true)
    (k5 : PySem.W.keepIn K (.ref f5) = true)
    (a6 : PySem.W.nsIn K mainGlobals "arrow_read" = some (some (.ref f6)))
    (l6 : K.lookup f6 = some ⟨oc6, od6, .func (PySem.W.fnOf "arrow_read" "arrow_read" (defArgs (topS 22)) (defBody (topS 22)) (defScope (topS 22)) .none kv6 dc6 pm6 an6 cd6 ct6), sl6⟩)
    (c6 : PySem.W.codeIn K cd6 "arrow_read" = true)
    (k6 : PySem.W.keepIn K (.ref f6) = true)
    (a7 : PySem.W.nsIn K mainGlobals "is_number_word" = some (some (.ref f7)))
    (l7 : K.lookup f7 = some ⟨oc7, od7, .func (PySem.W.fnOf "is_number_word" "is_number_word" (defArgs (topS 23)) (defBody (topS 23)) (defScope (topS 23)) .none kv7 dc7 pm7 an7 cd7 ct7), sl7⟩)
    (c7 : PySem.W.codeIn K cd7 "is_number_word" = true)
    (k7 : PySem.W.keepIn K (.ref f7) = true)
    (a8 : PySem.W.nsIn K mainGlobals "ends_read" = some (some (.ref f8)))
    (l8 : K.lookup f8 = some ⟨oc8, od8, .func (PySem.W.fnOf "ends_read" "ends_read" (defArgs (topS 24)) (defBody (topS 24)) (defScope (topS 24)) .none kv8 dc8 pm8 an8 cd8 ct8), sl8⟩)
    (c8 : PySem.W.codeIn K cd8 "ends_read" = true)
    (k8 : PySem.W.keepIn K (.ref f8) = true)
    (a9 : PySem.W.nsIn K mainGlobals "_line_kinds" = some (some (.ref f9)))
    (l9 : K.lookup f9 = some ⟨oc9, od9, .func (PySem.W.fnOf "_line_kinds" "_line_kinds" (defArgs (topS 25)) (defBody (topS 25)) (defScope (topS 25)) .none kv9 dc9 pm9 an9 cd9 ct9), sl9⟩)
    (c9 : PySem.W.codeIn K cd9 "_line_kinds" = true)
    (k9 : PySem.W.keepIn K (.ref f9) = true)
    (a10 : PySem.W.nsIn K mainGlobals "_is_of_kind" = some (some (.ref f10)))
    (l10 : K.lookup f10 = some ⟨oc10, od10, .func (PySem.W.fnOf "_is_of_kind" "_is_of_kind" (defArgs (topS 26)) (defBody (topS 26)) (defScope (topS 26)) .none kv10 dc10 pm10 an10 cd10 ct10), sl10⟩)
    (c10 : PySem.W.codeIn K cd10 "_is_of_kind" = true)
    (k10 : PySem.W.keepIn K (.ref f10) = true)
    (a11 : PySem.W.nsIn K mainGlobals "_law_feed" = some (some (.ref f11)))
    (l11 : K.lookup f11 = some ⟨oc11, od11, .func (PySem.W.fnOf "_law_feed" "_law_feed" (defArgs (topS 28)) (defBody (topS 28)) (defScope (topS 28)) .none kv11 dc11 pm11 an11 cd11 ct11), sl11⟩)
    (c11 : PySem.W.codeIn K cd11 "_law_feed" = true)
    (k11 : PySem.W.keepIn K (.ref f11) = true)
    (a12 : PySem.W.nsIn K mainGlobals "_law_draw" = some (some (.ref f12)))
    (l12 : K.lookup f12 = some ⟨oc12, od12, .func (PySem.W.fnOf "_law_draw" "_law_draw" (defArgs (topS 29)) (defBody (topS 29)) (defScope (topS 29)) .none kv12 dc12 pm12 an12 cd12 ct12), sl12⟩)
    (c12 : PySem.W.codeIn K cd12 "_law_draw" = true)
    (k12 : PySem.W.keepIn K (.ref f12) = true)
    (a13 : PySem.W.nsIn K mainGlobals "_law_pick" = some (some (.ref f13)))
    (l13 : K.lookup f13 = some ⟨oc13, od13, .func (PySem.W.fnOf "_law_pick" "_law_pick" (defArgs (topS 30)) (defBody (topS 30)) (defScope (topS 30)) .none kv13 dc13 pm13 an13 cd13 ct13), sl13⟩)
    (c13 : PySem.W.codeIn K cd13 "_law_pick" = true)
    (k13 : PySem.W.keepIn K (.ref f13) = true)
    (a14 : PySem.W.nsIn K mainGlobals "_law_names" = some (some (.ref f14)))
    (l14 : K.lookup f14 = some ⟨oc14, od14, .func (PySem.W.fnOf "_law_names" "_law_names" (defArgs (topS 31)) (defBody (topS 31)) (defScope (topS 31)) .none kv14 dc14 pm14 an14 cd14 ct14), sl14⟩)
    (c14 : PySem.W.codeIn K cd14 "_law_names" = true)
    (k14 : PySem.W.keepIn K (.ref f14) = true)
    (a15 : PySem.W.nsIn K mainGlobals "_law_spots" = some (some (.ref f15)))
    (l15 : K.lookup f15 = some ⟨oc15, od15, .func (PySem.W.fnOf "_law_spots" "_law_spots" (defArgs (topS 32)) (defBody (topS 32)) (defScope (topS 32)) .none kv15 dc15 pm15 an15 cd15 ct15), sl15⟩)
    (c15 : PySem.W.codeIn K cd15 "_law_spots" = true)
    (k15 : PySem.W.keepIn K (.ref f15) = true)
    (a16 : PySem.W.nsIn K mainGlobals "_law_doings" = some (some (.ref f16)))
    (l16 : K.lookup f16 = some ⟨oc16, od16, .func (PySem.W.fnOf "_law_doings" "_law_doings" (defArgs (topS 33)) (defBody (topS 33)) (defScope (topS 33)) .none kv16 dc16 pm16 an16 cd16 ct16), sl16⟩)
    (c16 : PySem.W.codeIn K cd16 "_law_doings" = true)
    (k16 : PySem.W.keepIn K (.ref f16) = true)
    (a17 : PySem.W.nsIn K mainGlobals "_law_party" = some (some (.ref f17)))
    (l17 : K.lookup f17 = some ⟨oc17, od17, .func (PySem.W.fnOf "_law_party" "_law_party" (defArgs (topS 34)) (defBody (topS 34)) (defScope (topS 34)) .none kv17 dc17 pm17 an17 cd17 ct17), sl17⟩)
    (c17 : PySem.W.codeIn K cd17 "_law_party" = true)
    (k17 : PySem.W.keepIn K (.ref f17) = true)
    (a18 : PySem.W.nsIn K mainGlobals "_law_built" = some (some (.ref f18)))
    (l18 : K.lookup f18 = some ⟨oc18, od18, .func (PySem.W.fnOf "_law_built" "_law_built" (defArgs (topS 35)) (defBody (topS 35)) (defScope (topS 35)) .none kv18 dc18 pm18 an18 cd18 ct18), sl18⟩)
    (c18 : PySem.W.codeIn K cd18 "_law_built" = true)
    (k18 : PySem.W.keepIn K (.ref f18) = true)
    (a19 : PySem.W.nsIn K mainGlobals "_law_words" = some (some (.ref f19)))
    (l19 : K.lookup f19 = some ⟨oc19, od19, .func (PySem.W.fnOf "_law_words" "_law_words" (defArgs (topS 36)) (defBody (topS 36)) (defScope (topS 36)) .none kv19 dc19 pm19 an19 cd19 ct19), sl19⟩)
    (c19 : PySem.W.codeIn K cd19 "_law_words" = true)
    (k19 : PySem.W.keepIn K (.ref f19) = true)
    (a20 : PySem.W.nsIn K mainGlobals "_law_lines" = some (some (.ref f20)))
    (l20 : K.lookup f20 = some ⟨oc20, od20, .func (PySem.W.fnOf "_law_lines" "_law_lines" (defArgs (topS 37)) (defBody (topS 37)) (defScope (topS 37)) .none kv20 dc20 pm20 an20 cd20 ct20), sl20⟩)
    (c20 : PySem.W.codeIn K cd20 "_law_lines" = true)
    (k20 : PySem.W.keepIn K (.ref f20) = true)
    (a21 : PySem.W.nsIn K mainGlobals "_law_loose" = some (some (.ref f21)))
    (l21 : K.lookup f21 = some ⟨oc21, od21, .func (PySem.W.fnOf "_law_loose" "_law_loose" (defArgs (topS 38)) (defBody (topS 38)) (defScope (topS 38)) .none kv21 dc21 pm21 an21 cd21 ct21), sl21⟩)
    (c21 : PySem.W.codeIn K cd21 "_law_loose" = true)
    (k21 : PySem.W.keepIn K (.ref f21) = true)
    (a22 : PySem.W.nsIn K mainGlobals "_law_same" = some (some (.ref f22)))
    (l22 : K.lookup f22 = some ⟨oc22, od22, .func (PySem.W.fnOf "_law_same" "_law_same" (defArgs (topS 39)) (defBody (topS 39)) (defScope (topS 39)) .none kv22 dc22 pm22 an22 cd22 ct22), sl22⟩)
    (c22 : PySem.W.codeIn K cd22 "_law_same" = true)
    (k22 : PySem.W.keepIn K (.ref f22) = true)
    (a23 : PySem.W.nsIn K mainGlobals "_law_doings_of" = some (some (.ref f23)))
    (l23 : K.lookup f23 = some ⟨oc23, od23, .func (PySem.W.fnOf "_law_doings_of" "_law_doings_of" (defArgs (topS 42)) (defBody (topS 42)) (defScope (topS 42)) .none kv23 dc23 pm23 an23 cd23 ct23), sl23⟩)
    (c23 : PySem.W.codeIn K cd23 "_law_doings_of" = true)
    (k23 : PySem.W.keepIn K (.ref f23) = true)
    (a24 : PySem.W.nsIn K mainGlobals "program_text" = some (some (.ref f24)))
    (l24 : K.lookup f24 = some ⟨oc24, od24, .func (PySem.W.fnOf "program_text" "program_text" (defArgs (topS 2)) (defBody (topS 2)) (defScope (topS 2)) .none kv24 dc24 pm24 an24 cd24 ct24), sl24⟩)
    (c24 : PySem.W.codeIn K cd24 "program_text" = true)
    (k24 : PySem.W.keepIn K (.ref f24) = true)
    (a25 : PySem.W.nsIn K mainGlobals "check_words" = some (some (.ref f25)))
    (l25 : K.lookup f25 = some ⟨oc25, od25, .func (PySem.W.fnOf "check_words" "check_words" (defArgs (topS 19)) (defBody (topS 19)) (defScope (topS 19)) .none kv25 dc25 pm25 an25 cd25 ct25), sl25⟩)
    (c25 : PySem.W.codeIn K cd25 "check_words" = true)
    (k25 : PySem.W.keepIn K (.ref f25) = true)
    (a26 : PySem.W.nsIn K mainGlobals "doing_read" = some (some (.ref f26)))
    (l26 : K.lookup f26 = some ⟨oc26, od26, .func (PySem.W.fnOf "doing_read" "doing_read" (defArgs (topS 16)) (defBody (topS 16)) (defScope (topS 16)) .none (.ref kd26) dc26 pm26 an26 cd26 ct26), sl26⟩)
    (w26_0 : PySem.W.nsIn K kd26 "line" = some (some (.int 0 kt26_0)))
    (w26_1 : PySem.W.nsIn K kd26 "field" = some (some (.int 0 kt26_1)))
    (c26 : PySem.W.codeIn K cd26 "doing_read" = true)
    (k26 : PySem.W.keepIn K (.ref f26) = true)
    (a27 : PySem.W.nsIn K mainGlobals "lines_read" = some (some (.ref f27)))
    (l27 : K.lookup f27 = some ⟨oc27, od27, .func (PySem.W.fnOf "lines_read" "lines_read" (defArgs (topS 18)) (defBody (topS 18)) (defScope (topS 18)) .none kv27 dc27 pm27 an27 cd27 ct27), sl27⟩)
    (c27 : PySem.W.codeIn K cd27 "lines_read" = true)
    (k27 : PySem.W.keepIn K (.ref f27) = true)
    (a28 : PySem.W.nsIn K mainGlobals "_law_doing_right" = some (some (.ref f28)))
    (l28 : K.lookup f28 = some ⟨oc28, od28, .func (PySem.W.fnOf "_law_doing_right" "_law_doing_right" (defArgs (topS 40)) (defBody (topS 40)) (defScope (topS 40)) .none kv28 dc28 pm28 an28 cd28 ct28), sl28⟩)
    (c28 : PySem.W.codeIn K cd28 "_law_doing_right" = true)
    (k28 : PySem.W.keepIn K (.ref f28) = true)
    (a29 : PySem.W.nsIn K mainGlobals "program_read" = some (some (.ref f29)))
    (l29 : K.lookup f29 = some ⟨oc29, od29, .func (PySem.W.fnOf "program_read" "program_read" (defArgs (topS 17)) (defBody (topS 17)) (defScope (topS 17)) .none kv29 dc29 pm29 an29 cd29 ct29), sl29⟩)
    (c29 : PySem.W.codeIn K cd29 "program_read" = true)
    (k29 : PySem.W.keepIn K (.ref f29) = true)
    (a30 : PySem.W.nsIn K mainGlobals "_law_pair_right" = some (some (.ref f30)))
    (l30 : K.lookup f30 = some ⟨oc30, od30, .func (PySem.W.fnOf "_law_pair_right" "_law_pair_right" (defArgs (topS 41)) (defBody (topS 41)) (defScope (topS 41)) .none kv30 dc30 pm30 an30 cd30 ct30), sl30⟩)
    (c30 : PySem.W.codeIn K cd30 "_law_pair_right" = true)
    (k30 : PySem.W.keepIn K (.ref f30) = true)
    (a31 : PySem.W.nsIn K mainGlobals "law" = some (some (.ref f31)))
    (l31 : K.lookup f31 = some ⟨oc31, od31, .func (PySem.W.fnOf "law" "law" (defArgs (topS 43)) (defBody (topS 43)) (defScope (topS 43)) .none kv31 dc31 pm31 an31 cd31 ct31), sl31⟩)
    (c31 : PySem.W.codeIn K cd31 "law" = true)
    (k31 : PySem.W.keepIn K (.ref f31) = true)
    (g0 : PySem.W.nsIn K mainGlobals "DIGITS" = some (some (.str "0123456789" gt0)))
    (g1 : PySem.W.nsIn K mainGlobals "FORMS" = some (some (.ref gT1)))
    (h1 : K.lookup gT1 = some ⟨.type "tuple", gd1, .seq #[.str "queue" gt1_0, .str "bag" gt1_1, .str "call" gt1_2] gn1, gs1⟩)
    (g2 : PySem.W.nsIn K mainGlobals "LETTERS" = some (some (.str "abcdefghijklmnopqrstuvwxyz" gt2)))
    (g3 : PySem.W.nsIn K mainGlobals "MOST_DIGITS" = some (some (.int 60 gt3)))
    (z_len : PySem.W.nsIn K mainGlobals "len" = some none)
    (z_all : PySem.W.nsIn K mainGlobals "all" = some none)
    (z_any : PySem.W.nsIn K mainGlobals "any" = some none)
    (z_range : PySem.W.nsIn K mainGlobals "range" = some none)
    (z_isinstance : PySem.W.nsIn K mainGlobals "isinstance" = some none)
    (z_int : PySem.W.nsIn K mainGlobals "int" = some none)
    (z_str : PySem.W.nsIn K mainGlobals "str" = some none)
    (z_tuple : PySem.W.nsIn K mainGlobals "tuple" = some none)
    (z_bool : PySem.W.nsIn K mainGlobals "bool" = some none)
    (z_list : PySem.W.nsIn K mainGlobals "list" = some none)
    (z_set : PySem.W.nsIn K mainGlobals "set" = some none)
    (z_sorted : PySem.W.nsIn K mainGlobals "sorted" = some none)
    (z_enumerate : PySem.W.nsIn K mainGlobals "enumerate" = some none)
    (z_sum : PySem.W.nsIn K mainGlobals "sum" = some none) :
    ∃ fd, (∀ (s : Shared) (u : Value), BindsTo s fd ⟨[u], []⟩ [("_law_script", u)]) ∧ ∀ base : Heap, K.In base → base.Ns mainGlobals mg → FnOk P w K mg base (L2.CX P w) 12 fa fd ["_law_script"] (spLaw K) := by
  have hx_InvalidText : mg "InvalidText" = some (.ref eC0) := PySem.W.mg_of X N xa0
  have x_InvalidText : ∀ base : Heap, Xc P w K mg base "InvalidText" "line" "field" := fun base => xc_of (qual := "InvalidText.__init__") (st := (L2.inClass (topS 7) 0)) X N xT0 xa0 xi0 xt0 xl0 xc0 xk0 xf0 xg0 xga0 xgg0 xhd0 xex0 ⟨rfl, rfl, rfl, by decide +kernel, rfl, by decide +kernel, by decide +kernel⟩ rfl (.inl rfl) (.inl rfl) (.inl rfl) (by decide) (by decide) (by decide) (by decide) fun _ _ _ _ _ _ us hl => match us, hl with | [_, _, _], _ => rfl
  have f_doing_text : Fn0 K mg "doing_text" (topS 1) ["doing"] := fn0_of X N ["doing"] a0 l0 c0 k0 fun _ _ _ _ _ _ us hl => match us, hl with | [_], _ => rfl
  have f__ends_text : Fn0 K mg "_ends_text" (topS 3) ["ends"] := fn0_of X N ["ends"] a1 l1 c1 k1 fun _ _ _ _ _ _ us hl => match us, hl with | [_], _ => rfl
  have f_is_name : Fn0 K mg "is_name" (topS 11) ["thing"] := fn0_of X N ["thing"] a2 l2 c2 k2 fun _ _ _ _ _ _ us hl => match us, hl with | [_], _ => rfl
  have f_ascends : Fn0 K mg "ascends" (topS 12) ["row"] := fn0_of X N ["row"] a3 l3 c3 k3 fun _ _ _ _ _ _ us hl => match us, hl with | [_], _ => rfl
  have f_doing_kinds : Fn0 K mg "doing_kinds" (topS 20) ["words"] := fn0_of X N ["words"] a4 l4 c4 k4 fun _ _ _ _ _ _ us hl => match us, hl with | [_], _ => rfl
  have f_arrow_kinds : Fn0 K mg "arrow_kinds" (topS 21) ["words", "party"] := fn0_of X N ["words", "party"] a5 l5 c5 k5 fun _ _ _ _ _ _ us hl => match us, hl with | [_, _], _ => rfl
  have f_arrow_read : Fn0 K mg "arrow_read" (topS 22) ["words"] := fn0_of X N ["words"] a6 l6 c6 k6 fun _ _ _ _ _ _ us hl => match us, hl with | [_], _ => rfl
  have f_is_number_word : Fn0 K mg "is_number_word" (topS 23) ["word"] := fn0_of X N ["word"] a7 l7 c7 k7 fun _ _ _ _ _ _ us hl => match us, hl with | [_], _ => rfl
  have f_ends_read : Fn0 K mg "ends_read" (topS 24) ["word"] := fn0_of X N ["word"] a8 l8 c8 k8 fun _ _ _ _ _ _ us hl => match us, hl with | [_], _ => rfl
  have f__line_kinds : Fn0 K mg "_line_kinds" (topS 25) ["words", "parties"] := fn0_of X N ["words", "parties"] a9 l9 c9 k9 fun _ _ _ _ _ _ us hl => match us, hl with | [_, _], _ => rfl
  have f__is_of_kind : Fn0 K mg "_is_of_kind" (topS 26) ["word", "kind"] := fn0_of X N ["word", "kind"] a10 l10 c10 k10 fun _ _ _ _ _ _ us hl => match us, hl with | [_, _], _ => rfl
  have f__law_feed : Fn0 K mg "_law_feed" (topS 28) ["_law_script"] := fn0_of X N ["_law_script"] a11 l11 c11 k11 fun _ _ _ _ _ _ us hl => match us, hl with | [_], _ => rfl
  have f__law_draw : Fn0 K mg "_law_draw" (topS 29) ["_law_feed_here", "_law_many"] := fn0_of X N ["_law_feed_here", "_law_many"] a12 l12 c12 k12 fun _ _ _ _ _ _ us hl => match us, hl with | [_, _], _ => rfl
  have f__law_pick : Fn0 K mg "_law_pick" (topS 30) ["_law_feed_here", "_law_things"] := fn0_of X N ["_law_feed_here", "_law_things"] a13 l13 c13 k13 fun _ _ _ _ _ _ us hl => match us, hl with | [_, _], _ => rfl
  have f__law_names : Fn0 K mg "_law_names" (topS 31) ["_law_feed_here", "_law_many"] := fn0_of X N ["_law_feed_here", "_law_many"] a14 l14 c14 k14 fun _ _ _ _ _ _ us hl => match us, hl with | [_, _], _ => rfl
  have f__law_spots : Fn0 K mg "_law_spots" (topS 32) ["_law_feed_here"] := fn0_of X N ["_law_feed_here"] a15 l15 c15 k15 fun _ _ _ _ _ _ us hl => match us, hl with | [_], _ => rfl
  have f__law_doings : Fn0 K mg "_law_doings" (topS 33) ["_law_name", "_law_channels", "_law_letters"] := fn0_of X N ["_law_name", "_law_channels", "_law_letters"] a16 l16 c16 k16 fun _ _ _ _ _ _ us hl => match us, hl with | [_, _, _], _ => rfl
  have f__law_party : Fn0 K mg "_law_party" (topS 34) ["_law_feed_here", "_law_name", "_law_doings_here", "_law_spots_here"] := fn0_of X N ["_law_feed_here", "_law_name", "_law_doings_here", "_law_spots_here"] a17 l17 c17 k17 fun _ _ _ _ _ _ us hl => match us, hl with | [_, _, _, _], _ => rfl
  have f__law_built : Fn0 K mg "_law_built" (topS 35) ["_law_feed_here"] := fn0_of X N ["_law_feed_here"] a18 l18 c18 k18 fun _ _ _ _ _ _ us hl => match us, hl with | [_], _ => rfl
  have f__law_words : Fn0 K mg "_law_words" (topS 36) ["_law_doing"] := fn0_of X N ["_law_doing"] a19 l19 c19 k19 fun _ _ _ _ _ _ us hl => match us, hl with | [_], _ => rfl
  have f__law_lines : Fn0 K mg "_law_lines" (topS 37) ["_law_parties", "_law_channels"] := fn0_of X N ["_law_parties", "_law_channels"] a20 l20 c20 k20 fun _ _ _ _ _ _ us hl => match us, hl with | [_, _], _ => rfl
  have f__law_loose : Fn0 K mg "_law_loose" (topS 38) ["_law_feed_here", "_law_program"] := fn0_of X N ["_law_feed_here", "_law_program"] a21 l21 c21 k21 fun _ _ _ _ _ _ us hl => match us, hl with | [_, _], _ => rfl
  have f__law_same : Fn0 K mg "_law_same" (topS 39) ["_law_told", "_law_due"] := fn0_of X N ["_law_told", "_law_due"] a22 l22 c22 k22 fun _ _ _ _ _ _ us hl => match us, hl with | [_, _], _ => rfl
  have f__law_doings_of : Fn0 K mg "_law_doings_of" (topS 42) ["_law_pair"] := fn0_of X N ["_law_pair"] a23 l23 c23 k23 fun _ _ _ _ _ _ us hl => match us, hl with | [_], _ => rfl
  have f_program_text : Fn0 K mg "program_text" (topS 2) ["program"] := fn0_of X N ["program"] a24 l24 c24 k24 fun _ _ _ _ _ _ us hl => match us, hl with | [_], _ => rfl
  have f_check_words : Fn0 K mg "check_words" (topS 19) ["words", "kinds", "line", "field"] := fn0_of X N ["words", "kinds", "line", "field"] a25 l25 c25 k25 fun _ _ _ _ _ _ us hl => match us, hl with | [_, _, _, _], _ => rfl
  have f_doing_read : FnD K mg "doing_read" (topS 16) ["text", "line", "field"] [.int 0, .int 0] := fnD_of X N ["text", "line", "field"] 1 [("line", 0), ("field", 0)] a26 l26 c26 k26 (by simp) rfl (fun q hq => by
    simp only [List.mem_cons, List.not_mem_nil, or_false] at hq
    rcases hq with rfl | rfl
    · exact ⟨_, w26_0⟩
    · exact ⟨_, w26_1⟩)
    (fun _ _ _ _ _ _ us ks h1 h2 => match us, ks, h1, h2 with | [_], [_, _], _, _ => ⟨_, _, _, _, _, _, rfl, rfl, ⟨_, _, _, _, _, _, rfl, rfl, rfl⟩⟩)
  have f_lines_read : Fn0 K mg "lines_read" (topS 18) ["lines", "first"] := fn0_of X N ["lines", "first"] a27 l27 c27 k27 fun _ _ _ _ _ _ us hl => match us, hl with | [_, _], _ => rfl
  have f__law_doing_right : Fn0 K mg "_law_doing_right" (topS 40) ["_law_doing"] := fn0_of X N ["_law_doing"] a28 l28 c28 k28 fun _ _ _ _ _ _ us hl => match us, hl with | [_], _ => rfl
  have f_program_read : Fn0 K mg "program_read" (topS 17) ["text"] := fn0_of X N ["text"] a29 l29 c29 k29 fun _ _ _ _ _ _ us hl => match us, hl with | [_], _ => rfl
  have f__law_pair_right : Fn0 K mg "_law_pair_right" (topS 41) ["_law_pair"] := fn0_of X N ["_law_pair"] a30 l30 c30 k30 fun _ _ _ _ _ _ us hl => match us, hl with | [_], _ => rfl
  have f_law : Fn0 K mg "law" (topS 43) ["_law_script"] := fn0_of X N ["_law_script"] a31 l31 c31 k31 fun _ _ _ _ _ _ us hl => match us, hl with | [_], _ => rfl
  have c_DIGITS := cn_str X N g0
  have c_FORMS : Cn mg K "FORMS" (.tup [.str "queue", .str "bag", .str "call"]) := cn_tupS (ys := ["queue", "bag", "call"]) X N g1 h1 (by show 3 ≤ sizeLine; decide) (.cons ⟨_, rfl⟩ (.cons ⟨_, rfl⟩ (.cons ⟨_, rfl⟩ .nil)))
  have c_LETTERS := cn_str X N g2
  have c_MOST_DIGITS := cn_int X N g3
  have B : Blt mg := ⟨PySem.W.mg_none_of X N z_len, PySem.W.mg_none_of X N z_all, PySem.W.mg_none_of X N z_any, PySem.W.mg_none_of X N z_range, PySem.W.mg_none_of X N z_isinstance, PySem.W.mg_none_of X N z_int, PySem.W.mg_none_of X N z_str, PySem.W.mg_none_of X N z_tuple, PySem.W.mg_none_of X N z_bool, PySem.W.mg_none_of X N z_list, PySem.W.mg_none_of X N z_set, PySem.W.mg_none_of X N z_sorted, PySem.W.mg_none_of X N z_enumerate, PySem.W.mg_none_of X N z_sum⟩
  refine own_law hfa law_ok f_law fun base => ?_
  have o_doing_text := d_doing_text (P := P) (w := w) (base := base) f_doing_text B
  have o__ends_text := d__ends_text (P := P) (w := w) (base := base) f__ends_text B
  have o_is_name := d_is_name (P := P) (w := w) (base := base) f_is_name B c_LETTERS
  have o_ascends := d_ascends (P := P) (w := w) (base := base) f_ascends B
  have o_doing_kinds := d_doing_kinds (P := P) (w := w) (base := base) f_doing_kinds B
  have o_arrow_kinds := d_arrow_kinds (P := P) (w := w) (base := base) f_arrow_kinds B o_doing_kinds
  have o_arrow_read := d_arrow_read (P := P) (w := w) (base := base) f_arrow_read B
  have o_is_number_word := d_is_number_word (P := P) (w := w) (base := base) f_is_number_word B c_MOST_DIGITS c_DIGITS
  have o_ends_read := d_ends_read (P := P) (w := w) (base := base) f_ends_read B o_is_number_word o_ascends
  have o__line_kinds := d__line_kinds (P := P) (w := w) (base := base) f__line_kinds B o_arrow_kinds c_FORMS
  have o__is_of_kind := d__is_of_kind (P := P) (w := w) (base := base) f__is_of_kind B o_is_name o_is_number_word o_ends_read
  have o__law_feed := d__law_feed (P := P) (w := w) (base := base) f__law_feed B
  have o__law_draw := d__law_draw (P := P) (w := w) (base := base) f__law_draw B
  have o__law_pick := d__law_pick (P := P) (w := w) (base := base) f__law_pick B o__law_draw
  have o__law_names := d__law_names (P := P) (w := w) (base := base) f__law_names B o__law_draw o__law_pick
  have o__law_spots := d__law_spots (P := P) (w := w) (base := base) f__law_spots B o__law_draw
  have o__law_doings := d__law_doings (P := P) (w := w) (base := base) f__law_doings B
  have o__law_party := d__law_party (P := P) (w := w) (base := base) f__law_party B o__law_draw o__law_pick
  have o__law_built := d__law_built (P := P) (w := w) (base := base) f__law_built B o__law_names o__law_draw o__law_spots o__law_pick o__law_party o__law_doings
  have o__law_words := d__law_words (P := P) (w := w) (base := base) f__law_words B
  have o__law_lines := d__law_lines (P := P) (w := w) (base := base) f__law_lines B o__law_words
  have o__law_loose := d__law_loose (P := P) (w := w) (base := base) f__law_loose B o__law_draw o__law_pick
  have o__law_same := d__law_same (P := P) (w := w) (base := base) f__law_same B 10
  have o__law_doings_of := d__law_doings_of (P := P) (w := w) (base := base) f__law_doings_of B
  have o_program_text := d_program_text (P := P) (w := w) (base := base) f_program_text B o__ends_text o_doing_text
  have o_check_words := d_check_words (P := P) (w := w) (base := base) f_check_words B o__is_of_kind (x_InvalidText base)
  have o_doing_read := d_doing_read (P := P) (w := w) (base := base) f_doing_read B o_check_words o_doing_kinds
  have o_lines_read := d_lines_read (P := P) (w := w) (base := base) f_lines_read B o_check_words o__line_kinds o_ends_read o_arrow_read
  have o__law_doing_right := d__law_doing_right (P := P) (w := w) (base := base) f__law_doing_right B o_doing_text o__law_words o__law_same o_doing_read
  have o_program_read := d_program_read (P := P) (w := w) (base := base) f_program_read B o_lines_read
  have o__law_pair_right := d__law_pair_right (P := P) (w := w) (base := base) f__law_pair_right B o__law_lines o__law_same o_program_text o_program_read
  have o_law := d_law (P := P) (w := w) (base := base) f_law B o__law_feed o__law_built o__law_loose o__law_names o__law_pair_right o__law_doings_of o__law_doing_right
  exact o_law
end LK
open PySem PySem.W PyProof.Rows
set_option maxHeartbeats 0 in
theorem PySem.Challenge.cw_ascalls_k06_texts_holds : PySem.Challenge.rw_ascalls_k06_texts.Holds := by
  w_on; o_law; k_head; (case hw => w_witness2)
  k_fill
  refine L2.walk_of (l := PySem.Challenge.rw_ascalls_k06_texts) (n := 63) (k := 12) (x := "_law_script") (CX := fun w => L2.CX PySem.Challenge.pw_ascalls_k06_texts w) (sp := fun w => PL.spLaw _) rfl (by decide) rfl ⟨rfl, by decide, by decide⟩ (fun w h Y => PySem.W.kIn_of Y) ?F (fun _ _ a ns hl _ hS => ⟨a, ns, rfl, hS, hl, fun _ => rfl⟩) ?X
  case X =>
    intro w H s e s' hx
    exact PL.no_cx hx
  case F =>
    intro w mg fa h KX G hmg
    refine' LK.all_mk KX G hmg ?h_xa0 ?h_xT0 ?h_xi0 ?h_xt0 ?h_xl0 ?h_xc0 ?h_xk0 ?h_xf0 ?h_xg0 ?h_xga0 ?h_xgg0 ?h_xhd0 ?h_xex0 ?h_a0 ?h_l0 ?h_c0 ?h_k0 ?h_a1 ?h_l1 ?h_c1 ?h_k1 ?h_a2 ?h_l2 ?h_c2 ?h_k2 ?h_a3 ?h_l3 ?h_c3 ?h_k3 ?h_a4 ?h_l4 ?h_c4 ?h_k4 ?h_a5 ?h_l5 ?h_c5 ?h_k5 ?h_a6 ?h_l6 ?h_c6 ?h_k6 ?h_a7 ?h_l7 ?h_c7 ?h_k7 ?h_a8 ?h_l8 ?h_c8 ?h_k8 ?h_a9 ?h_l9 ?h_c9 ?h_k9 ?h_a10 ?h_l10 ?h_c10 ?h_k10 ?h_a11 ?h_l11 ?h_c11 ?h_k11 ?h_a12 ?h_l12 ?h_c12 ?h_k12 ?h_a13 ?h_l13 ?h_c13 ?h_k13 ?h_a14 ?h_l14 ?h_c14 ?h_k14 ?h_a15 ?h_l15 ?h_c15 ?h_k15 ?h_a16 ?h_l16 ?h_c16 ?h_k16 ?h_a17 ?h_l17 ?h_c17 ?h_k17 ?h_a18 ?h_l18 ?h_c18 ?h_k18 ?h_a19 ?h_l19 ?h_c19 ?h_k19 ?h_a20 ?h_l20 ?h_c20 ?h_k20 ?h_a21 ?h_l21 ?h_c21 ?h_k21 ?h_a22 ?h_l22 ?h_c22 ?h_k22 ?h_a23 ?h_l23 ?h_c23 ?h_k23 ?h_a24 ?h_l24 ?h_c24 ?h_k24 ?h_a25 ?h_l25 ?h_c25 ?h_k25 ?h_a26 ?h_l26 ?h_w26_0 ?h_w26_1 ?h_c26 ?h_k26 ?h_a27 ?h_l27 ?h_c27 ?h_k27 ?h_a28 ?h_l28 ?h_c28 ?h_k28 ?h_a29 ?h_l29 ?h_c29 ?h_k29 ?h_a30 ?h_l30 ?h_c30 ?h_k30 ?h_a31 ?h_l31 ?h_c31 ?h_k31 ?h_g0 ?h_g1 ?h_h1 ?h_g2 ?h_g3 ?h_z_len ?h_z_all ?h_z_any ?h_z_range ?h_z_isinstance ?h_z_int ?h_z_str ?h_z_tuple ?h_z_bool ?h_z_list ?h_z_set ?h_z_sorted ?h_z_enumerate ?h_z_sum
    (case h_xa0 => k_is); (case h_xT0 => exact ⟨⟨_, _, _, _, _, _, _, _, _, _, _, _, _, _, _, by k_is, by kernel_rfl⟩, by k_is, by k_is, by k_is, by k_is⟩); (case h_xi0 => k_is); (case h_xt0 => k_is); (case h_xl0 => k_is); (case h_xc0 => k_is); (case h_xk0 => k_is); (case h_xf0 => k_is); (case h_xg0 => k_is); (case h_xga0 => k_is); (case h_xgg0 => k_is); (case h_xhd0 => k_is); (case h_xex0 => kernel_rfl); (case h_a0 => k_is); (case h_l0 => k_is); (case h_c0 => k_is); (case h_k0 => k_is); (case h_a1 => k_is); (case h_l1 => k_is); (case h_c1 => k_is); (case h_k1 => k_is); (case h_a2 => k_is); (case h_l2 => k_is); (case h_c2 => k_is); (case h_k2 => k_is); (case h_a3 => k_is); (case h_l3 => k_is); (case h_c3 => k_is); (case h_k3 => k_is); (case h_a4 => k_is); (case h_l4 => k_is); (case h_c4 => k_is); (case h_k4 => k_is); (case h_a5 => k_is); (case h_l5 => k_is); (case h_c5 => k_is); (case h_k5 => k_is); (case h_a6 => k_is); (case h_l6 => k_is); (case h_c6 => k_is); (case h_k6 => k_is); (case h_a7 => k_is); (case h_l7 => k_is); (case h_c7 => k_is); (case h_k7 => k_is); (case h_a8 => k_is); (case h_l8 => k_is); (case h_c8 => k_is); (case h_k8 => k_is); (case h_a9 => k_is); (case h_l9 => k_is); (case h_c9 => k_is); (case h_k9 => k_is); (case h_a10 => k_is); (case h_l10 => k_is); (case h_c10 => k_is); (case h_k10 => k_is); (case h_a11 => k_is); (case h_l11 => k_is); (case h_c11 => k_is); (case h_k11 => k_is); (case h_a12 => k_is); (case h_l12 => k_is); (case h_c12 => k_is); (case h_k12 => k_is); (case h_a13 => k_is); (case h_l13 => k_is); (case h_c13 => k_is); (case h_k13 => k_is); (case h_a14 => k_is); (case h_l14 => k_is); (case h_c14 => k_is); (case h_k14 => k_is); (case h_a15 => k_is); (case h_l15 => k_is); (case h_c15 => k_is); (case h_k15 => k_is); (case h_a16 => k_is); (case h_l16 => k_is); (case h_c16 => k_is); (case h_k16 => k_is); (case h_a17 => k_is); (case h_l17 => k_is); (case h_c17 => k_is); (case h_k17 => k_is); (case h_a18 => k_is); (case h_l18 => k_is); (case h_c18 => k_is); (case h_k18 => k_is); (case h_a19 => k_is); (case h_l19 => k_is); (case h_c19 => k_is); (case h_k19 => k_is); (case h_a20 => k_is); (case h_l20 => k_is); (case h_c20 => k_is); (case h_k20 => k_is); (case h_a21 => k_is); (case h_l21 => k_is); (case h_c21 => k_is); (case h_k21 => k_is); (case h_a22 => k_is); (case h_l22 => k_is); (case h_c22 => k_is); (case h_k22 => k_is); (case h_a23 => k_is); (case h_l23 => k_is); (case h_c23 => k_is); (case h_k23 => k_is); (case h_a24 => k_is); (case h_l24 => k_is); (case h_c24 => k_is); (case h_k24 => k_is); (case h_a25 => k_is); (case h_l25 => k_is); (case h_c25 => k_is); (case h_k25 => k_is); (case h_a26 => k_is); (case h_l26 => k_is); (case h_w26_0 => k_is); (case h_w26_1 => k_is); (case h_c26 => k_is); (case h_k26 => k_is); (case h_a27 => k_is); (case h_l27 => k_is); (case h_c27 => k_is); (case h_k27 => k_is); (case h_a28 => k_is); (case h_l28 => k_is); (case h_c28 => k_is); (case h_k28 => k_is); (case h_a29 => k_is); (case h_l29 => k_is); (case h_c29 => k_is); (case h_k29 => k_is); (case h_a30 => k_is); (case h_l30 => k_is); (case h_c30 => k_is); (case h_k30 => k_is); (case h_a31 => k_is); (case h_l31 => k_is); (case h_c31 => k_is); (case h_k31 => k_is); (case h_g0 => k_is); (case h_g1 => k_is); (case h_h1 => k_is); (case h_g2 => k_is); (case h_g3 => k_is); (case h_z_len => k_is); (case h_z_all => k_is); (case h_z_any => k_is); (case h_z_range => k_is); (case h_z_isinstance => k_is); (case h_z_int => k_is); (case h_z_str => k_is); (case h_z_tuple => k_is); (case h_z_bool => k_is); (case h_z_list => k_is); (case h_z_set => k_is); (case h_z_sorted => k_is); (case h_z_enumerate => k_is); (case h_z_sum => k_is)
