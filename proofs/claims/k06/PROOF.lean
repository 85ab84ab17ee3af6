import PyProof.Rows.All
import Wide.All
import OpenK.AllK
import Wide.FinOn
import HandS.ForMost
import HandS.ForExc
import HandS.TupAny
import HandS.ClsMeth
import HandS.Strs
import HandS.Conv
import HandS.NoneIn
import HandS.DictComp
import HandS.Wide
import HandS.Defaults
import HandS.IsInst
import HandS.ExcInit
import HandS.TryOnly
import HandS.Flow
import HandS.Iter
import HandS.Text
import HandS.More
import HandS.StrMore
import KE.KDictKeyed
import KE.KeyNested
import KE.KDictWalk
import KE.GoesEnum
import HandS.SetFor
import PyProof.StrBlock2
import KE.KDictDisplayH
import HandS.RaiseMore
import HandS.HeadHook1
import HandS.HeadHook2
import HandS.HeadHook3
import HandS.HeadNt
import HandS.HeadWalk
import HandS.Head0
import HandS.Head1
import HandS.Head2
import HandS.HeadEnd
import PyProof.DictUpdate
import HandS.ExcField
import HandS.Style
import HandS.Codes
import Wide.Once
import PySem.Challenge.RW_trickfares_k06_systems_with_too_many_sta
set_option Elab.async false
set_option linter.all false
set_option maxRecDepth 100000
set_option maxHeartbeats 4000000
namespace TR
open PySem PySem.Spec L2

/-! ### values and heaps that can be run -/
inductive PV where
  | non | bl (b : Bool) | int (i : Int) | str (x : Str)
  | tup (l : List PV) | lst (l : List PV) | scr (l : List PV) | dct (l : List (PV × PV)) | dcn (l : List (PV × PV))
  | ref (n : Nat) | cls (c : Nat) | ty (n : String)
inductive Ob where
  | lst (l : List PV) | dct (l : List (PV × PV)) | dcn (l : List (PV × PV)) | ins (c : Nat) (fs : List (Str × PV)) | gone
abbrev Hh := List Ob
abbrev Sl := List (Option PV)
inductive Rs (α : Type) where
  | ok (a : α) (h : Hh)
  | exc (c : Nat) (fs : List (Str × PV)) (h : Hh)
  | bad
def Rs.bind {α β : Type} : Rs α → (α → Hh → Rs β) → Rs β
  | .ok a h, f => f a h
  | .exc c fs h, _ => .exc c fs h
  | .bad, _ => .bad
inductive SR where
  | nx (st : Sl) (h : Hh) | bk (st : Sl) (h : Hh) | ct (st : Sl) (h : Hh) | ret (v : PV) (h : Hh)
  | exc (c : Nat) (fs : List (Str × PV)) (st : Sl) (h : Hh)
  | bad
def keyV : PV → Option Key
  | .int i => some (.inl i)
  | .str x => some (.inr x)
  | _ => none
def keysV : List PV → Option (List Key)
  | [] => some []
  | v :: r => match keyV v, keysV r with
    | some k, some ks => some (k :: ks)
    | _, _ => none
/-- what is fixed: where the classes stand, the program, the world -/
structure En where
  ca : Nat → Addr
  P : Program
  w : World
def mapO {α β : Type} (f : α → Option β) : List α → Option (List β)
  | [] => some []
  | a :: r => match f a, mapO f r with
    | some b, some bs => some (b :: bs)
    | _, _ => none
/-- keys of any depth (to n) -/
def nkeyN : Nat → PV → Option NestedKey
  | 0, _ => none
  | n + 1, v => match v with
    | .non => some .none
    | .bl b => some (.num (if b then 1 else 0))
    | .int i => some (.num i)
    | .str x => some (.text x)
    | .tup l => (mapO (nkeyN n) l).map .tup
    | _ => none
/-- a key that is a tuple -/
def nkey (v : PV) : Option NestedKey := match v with
  | .tup l => nkeyN 8 (.tup l)
  | _ => none
/-- a dict whose keys are tuples of any depth: the keys, where their tuples stand, the values -/
def dnO (P : Program) (w : World) (a : Addr) (es : List (NestedKey × Addr × V)) : HO := .ext fun hp => (a == sysModules) = false ∧ es.length ≤ sizeLine ∧ ∃ (xs : List (NestedKey × Addr × Value)) (o : Obj) (ents : Array DictEntry) (ep : Nat),
  Paired (fun (p : NestedKey × Addr × V) (q : NestedKey × Addr × Value) => p.1 = q.1 ∧ p.2.1 = q.2.1 ∧ RelV p.2.2 q.2.2) es xs ∧ hp.get? a = some o ∧ o.ExactDict ∧ o.data = .dict ents ep ∧ ents.toList = xs.map (entryOfKey (nestedKind P w)) ∧ (xs.map (·.1)).Nodup

/-! ### how they stand in the tracked heap -/
/-- the addresses of the ids; what is being made (and isn't yet a value) -/
structure Mp where
  ids : List Addr
  res : List Addr := []
def Live (μ : Mp) (h : Hh) (a : Addr) : Prop := a ∈ μ.res ∨ ∃ (i : Nat) (o : Ob), μ.ids[i]? = some a ∧ h[i]? = some o ∧ o ≠ .gone
def Fz (μ : Mp) (h : Hh) (H : Hp) (p : Addr) (u : HO) : Prop := ¬ Live μ h p ∧ Rd H p u
/-- an object of the module: a list, a tuple -/
def KL (K : PySem.W.Frag) (a : Addr) (xs : List V) : Prop := ∃ (o : Obj) (its : Array Value) (n : Nat), K.lookup a = some o ∧ o.cls = .type "list" ∧ o.dict = none ∧ o.data = .seq its n ∧ its.size ≤ sizeLine ∧ Vals xs its.toList
def KT (K : PySem.W.Frag) (a : Addr) (xs : List V) : Prop := ∃ (o : Obj) (its : Array Value) (n : Nat), K.lookup a = some o ∧ o.cls = .type "tuple" ∧ o.data = .seq its n ∧ its.size ≤ sizeLine ∧ Vals xs its.toList
mutual
inductive VR (K : PySem.W.Frag) (cl : En) (μ : Mp) (h : Hh) (H : Hp) : PV → V → Prop
  | non : VR K cl μ h H .non .non
  | bl {b} : VR K cl μ h H (.bl b) (.bl b)
  | int {i} : VR K cl μ h H (.int i) (.int i)
  | str {x} : VR K cl μ h H (.str x) (.str x)
  | tup {p xs l} : Fz μ h H p (.tup xs) → VRs K cl μ h H l xs → VR K cl μ h H (.tup l) (.ref p)
  | ktup {p xs l} : KT K p xs → VRs K cl μ h H l xs → VR K cl μ h H (.tup l) (.ref p)
  | lst {p xs l} : ¬ Live μ h p → H p = some (.lst xs) → VRs K cl μ h H l xs → VR K cl μ h H (.lst l) (.ref p)
  | scr {p xs l} : Fz μ h H p (.lst xs) → VRs K cl μ h H l xs → VR K cl μ h H (.scr l) (.ref p)
  | kscr {p xs l} : KL K p xs → VRs K cl μ h H l xs → VR K cl μ h H (.scr l) (.ref p)
  | dct {p kvs l} : ¬ Live μ h p → H p = some (.dK kvs) → l.map (fun q => keyV q.1) = kvs.map (fun q => some q.1) → (kvs.map (·.1)).Nodup → VRs K cl μ h H (l.map (·.2)) (kvs.map (·.2)) → VR K cl μ h H (.dct l) (.ref p)
  | dctN {p es l} : ¬ Live μ h p → H p = some (dnO cl.P cl.w p es) → l.map (fun q => nkey q.1) = es.map (fun q => some q.1) → VRs K cl μ h H (l.map (·.1)) (es.map fun q => V.ref q.2.1) → VRs K cl μ h H (l.map (·.2)) (es.map (·.2.2)) → VR K cl μ h H (.dcn l) (.ref p)
  | ref {i a} : μ.ids[i]? = some a → VR K cl μ h H (.ref i) (.ref a)
  | cls {c} : VR K cl μ h H (.cls c) (.ref (cl.ca c))
  | ty {n} : VR K cl μ h H (.ty n) (.ty n)
inductive VRs (K : PySem.W.Frag) (cl : En) (μ : Mp) (h : Hh) (H : Hp) : List PV → List V → Prop
  | nil : VRs K cl μ h H [] []
  | cons {v x l xs} : VR K cl μ h H v x → VRs K cl μ h H l xs → VRs K cl μ h H (v :: l) (x :: xs)
end

structure Grw (μ : Mp) (h : Hh) (H : Hp) (μ' : Mp) (h' : Hh) (H' : Hp) : Prop where
  pre : ∀ (i : Nat) (a : Addr), μ.ids[i]? = some a → μ'.ids[i]? = some a
  live : ∀ a, Live μ' h' a → Live μ h a ∨ H a = none
  keep : ∀ p o, H p = some o → ¬ Live μ h p → H' p = some o
structure Grow (μ : Mp) (h : Hh) (H : Hp) (μ' : Mp) (h' : Hh) (H' : Hp) : Prop extends Grw μ h H μ' h' H' where
  res : μ'.res = μ.res
  rk : ∀ a, a ∈ μ.res → ∀ u, H a = some u → H' a = some u
theorem Grow.refl (μ : Mp) (h : Hh) (H : Hp) : Grow μ h H μ h H := ⟨⟨fun _ _ e => e, fun _ x => .inl x, fun _ _ e _ => e⟩, rfl, fun _ _ _ e => e⟩
theorem Grw.trans {μ h H μ1 h1 H1 μ2 h2 H2} (a : Grw μ h H μ1 h1 H1) (b : Grw μ1 h1 H1 μ2 h2 H2) : Grw μ h H μ2 h2 H2 := by
  refine ⟨fun i x e => b.pre i x (a.pre i x e), fun x l => ?_, fun p o e n => ?_⟩
  · rcases b.live x l with l | e
    · exact a.live x l
    · by_cases hl : Live μ h x
      · exact .inl hl
      · cases q : H x with
        | none => exact .inr rfl
        | some o => rw [a.keep x o q hl] at e; cases e
  · refine b.keep p o (a.keep p o e n) fun l => ?_
    rcases a.live p l with l | z
    · exact n l
    · rw [e] at z; cases z
theorem Grow.trans {μ h H μ1 h1 H1 μ2 h2 H2} (a : Grow μ h H μ1 h1 H1) (b : Grow μ1 h1 H1 μ2 h2 H2) : Grow μ h H μ2 h2 H2 := ⟨a.toGrw.trans b.toGrw, b.res.trans a.res, fun x hx u e => b.rk x (by rw [a.res]; exact hx) u (a.rk x hx u e)⟩
theorem Rd.some {H : Hp} {p : Addr} {u : HO} (r : Rd H p u) : ∃ o, H p = some o := by
  rcases r with r | ⟨o, r⟩
  · exact ⟨_, r⟩
  · exact ⟨_, r⟩
theorem Fz.grow {μ h H μ' h' H' p u} (f : Fz μ h H p u) (g : Grw μ h H μ' h' H') : Fz μ' h' H' p u := by
  obtain ⟨n, r⟩ := f
  refine ⟨fun l => ?_, ?_⟩
  · rcases g.live p l with l | e
    · exact n l
    · obtain ⟨o, q⟩ := Rd.some r
      rw [e] at q; cases q
  · rcases r with r | ⟨o, r⟩
    · exact .inl (g.keep _ _ r n)
    · exact .inr ⟨o, g.keep _ _ r n⟩
theorem not_live {μ h H μ' h' H'} (g : Grw μ h H μ' h' H') {p o} (n : ¬ Live μ h p) (e : H p = some o) : ¬ Live μ' h' p := fun l => by
  rcases g.live p l with l | z
  · exact n l
  · rw [e] at z; cases z
mutual
theorem VR.grow {K cl μ h H μ' h' H'} (g : Grw μ h H μ' h' H') : ∀ {v x}, VR K cl μ h H v x → VR K cl μ' h' H' v x
  | _, _, .non => .non
  | _, _, .bl => .bl
  | _, _, .int => .int
  | _, _, .str => .str
  | _, _, .tup f r => .tup (f.grow g) (VRs.grow g r)
  | _, _, .ktup f r => .ktup f (VRs.grow g r)
  | _, _, .lst n f r => .lst (not_live g n f) (g.keep _ _ f n) (VRs.grow g r)
  | _, _, .scr f r => .scr (f.grow g) (VRs.grow g r)
  | _, _, .kscr f r => .kscr f (VRs.grow g r)
  | _, _, .dct n f e d r => .dct (not_live g n f) (g.keep _ _ f n) e d (VRs.grow g r)
  | _, _, .dctN n f e q r => .dctN (not_live g n f) (g.keep _ _ f n) e (VRs.grow g q) (VRs.grow g r)
  | _, _, .ref e => .ref (g.pre _ _ e)
  | _, _, .cls => .cls
  | _, _, .ty => .ty
theorem VRs.grow {K cl μ h H μ' h' H'} (g : Grw μ h H μ' h' H') : ∀ {v x}, VRs K cl μ h H v x → VRs K cl μ' h' H' v x
  | _, _, .nil => .nil
  | _, _, .cons r rs => .cons (VR.grow g r) (VRs.grow g rs)
end
theorem VRs.length {K cl μ h H} : ∀ {l xs}, VRs K cl μ h H l xs → l.length = xs.length
  | _, _, .nil => rfl
  | _, _, .cons _ t => by simp [VRs.length t]
theorem VRs.get {K cl μ h H} : ∀ {l xs} {i : Nat} {v}, VRs K cl μ h H l xs → l[i]? = some v → ∃ x, xs[i]? = some x ∧ VR K cl μ h H v x
  | _, _, _, _, .nil, e => by simp at e
  | _, _, 0, _, .cons r _, e => by simp at e; subst e; exact ⟨_, rfl, r⟩
  | _, _, i + 1, _, .cons _ t, e => by
    obtain ⟨x, h1, h2⟩ := VRs.get (i := i) t (by simpa using e)
    exact ⟨x, by simpa using h1, h2⟩
theorem VRs.append {K cl μ h H} : ∀ {l xs l' xs'}, VRs K cl μ h H l xs → VRs K cl μ h H l' xs' → VRs K cl μ h H (l ++ l') (xs ++ xs')
  | _, _, _, _, .nil, s => s
  | _, _, _, _, .cons r t, s => .cons r (VRs.append t s)
theorem VRs.take {K cl μ h H} : ∀ {l xs} (n : Nat), VRs K cl μ h H l xs → VRs K cl μ h H (l.take n) (xs.take n)
  | _, _, 0, _ => .nil
  | _, _, _ + 1, .nil => .nil
  | _, _, n + 1, .cons r t => .cons r (VRs.take n t)
theorem VRs.drop {K cl μ h H} : ∀ {l xs} (n : Nat), VRs K cl μ h H l xs → VRs K cl μ h H (l.drop n) (xs.drop n)
  | _, _, 0, r => r
  | _, _, _ + 1, .nil => .nil
  | _, _, n + 1, .cons _ t => VRs.drop n t
theorem VRs.set {K cl μ h H} {v x} (r : VR K cl μ h H v x) : ∀ {l xs} (n : Nat), VRs K cl μ h H l xs → VRs K cl μ h H (l.set n v) (xs.set n x)
  | _, _, _, .nil => .nil
  | _, _, 0, .cons _ t => .cons r t
  | _, _, n + 1, .cons q t => .cons q (VRs.set r n t)

/-- an object with an id -/
inductive OR (K : PySem.W.Frag) (cl : En) (μ : Mp) (h : Hh) (H : Hp) (a : Addr) : Ob → Prop
  | lst {l xs} : H a = some (.lst xs) → VRs K cl μ h H l xs → OR K cl μ h H a (.lst l)
  | dK {l kvs} : H a = some (.dK kvs) → l.map (fun q => keyV q.1) = kvs.map (fun q => some q.1) → (kvs.map (·.1)).Nodup → VRs K cl μ h H (l.map (·.2)) (kvs.map (·.2)) → OR K cl μ h H a (.dct l)
  | dN {l es} : H a = some (dnO cl.P cl.w a es) → l.map (fun q => nkey q.1) = es.map (fun q => some q.1) → VRs K cl μ h H (l.map (·.1)) (es.map fun q => V.ref q.2.1) → VRs K cl μ h H (l.map (·.2)) (es.map (·.2.2)) → OR K cl μ h H a (.dcn l)
  | ins {c fs dx ys} : H a = some (.ins (cl.ca c) dx ys) → fs.map (·.1) = ys.map (·.1) → VRs K cl μ h H (fs.map (·.2)) (ys.map (·.2)) → OR K cl μ h H a (.ins c fs)
  | gone {u} : H a = some u → OR K cl μ h H a .gone
structure Sim (K : PySem.W.Frag) (cl : En) (μ : Mp) (h : Hh) (H : Hp) : Prop where
  len : μ.ids.length = h.length
  nd : μ.ids.Nodup
  ob : ∀ (i : Nat) (a : Addr) (o : Ob), μ.ids[i]? = some a → h[i]? = some o → OR K cl μ h H a o
  rs : ∀ a, a ∈ μ.res → (∃ u, H a = some u) ∧ a ∉ μ.ids
theorem OR.some {K cl μ h H a o} (r : OR K cl μ h H a o) : ∃ u, H a = some u := by
  cases r with
  | lst e _ => exact ⟨_, e⟩
  | dK e _ _ _ => exact ⟨_, e⟩
  | dN e _ _ _ => exact ⟨_, e⟩
  | ins e _ _ => exact ⟨_, e⟩
  | gone e => exact ⟨_, e⟩
theorem Sim.live {K cl μ h H a} (s : Sim K cl μ h H) (l : Live μ h a) : ∃ u, H a = some u := by
  rcases l with l | ⟨i, o, e1, e2, n⟩
  · exact (s.rs a l).1
  · exact (s.ob i a o e1 e2).some
theorem Sim.fresh {K cl μ h H a} (s : Sim K cl μ h H) (e : H a = none) : ¬ Live μ h a := fun l => by
  obtain ⟨u, q⟩ := s.live l
  rw [e] at q; cases q
theorem nodup_get {α : Type} {l : List α} (nd : l.Nodup) {i j : Nat} {a : α} (h1 : l[i]? = some a) (h2 : l[j]? = some a) : i = j := by
  obtain ⟨hi, e1⟩ := List.getElem?_eq_some_iff.mp h1
  exact (List.getElem?_inj hi nd).mp (h1.trans h2.symm)
theorem OR.grow {K cl μ h H μ' h' H' a o} (g : Grw μ h H μ' h' H') (e : H' a = H a) (r : OR K cl μ h H a o) : OR K cl μ' h' H' a o := by
  cases r with
  | lst q r => exact .lst (e.trans q) (VRs.grow g r)
  | dK q k n r => exact .dK (e.trans q) k n (VRs.grow g r)
  | dN q k t r => exact .dN (e.trans q) k (VRs.grow g t) (VRs.grow g r)
  | ins q k r => exact .ins (e.trans q) k (VRs.grow g r)
  | gone q => exact .gone (e.trans q)
theorem Sim.mem {K cl μ h H a} (s : Sim K cl μ h H) (m : a ∈ μ.ids) : ∃ u, H a = some u := by
  obtain ⟨i, e⟩ := List.getElem?_of_mem m
  have hi := (List.getElem?_eq_some_iff.mp e).1
  have : i < h.length := by rw [← s.len]; exact hi
  exact (s.ob i a h[i] e (by simp [this])).some
/-- nothing live changes -/
theorem Sim.grow {K cl μ h H H'} (s : Sim K cl μ h H) (g : Grw μ h H μ h H') (e : ∀ a, Live μ h a → H' a = H a) : Sim K cl μ h H' := by
  have st : ∀ a, (∃ u, H a = some u) → H' a = H a := fun a ⟨u, q⟩ => by
    by_cases l : Live μ h a
    · exact e a l
    · rw [q]; exact g.keep a u q l
  refine ⟨s.len, s.nd, fun i a o h1 h2 => ?_, fun a ha => ?_⟩
  · have r := s.ob i a o h1 h2
    exact r.grow g (st a r.some)
  · obtain ⟨x, n⟩ := s.rs a ha
    exact ⟨by rw [st a x]; exact x, n⟩
/-- a new object that stays as it is -/
theorem grow_new {μ : Mp} {h : Hh} {H : Hp} {p : Addr} {o : HO} (hp : H p = none) : Grow μ h H μ h (upd H p o) :=
  ⟨⟨fun _ _ e => e, fun _ l => .inl l, fun q u e _ => by rw [upd_ne (ne_of_none e hp)]; exact e⟩, rfl, fun q _ u e => by rw [upd_ne (ne_of_none e hp)]; exact e⟩
theorem Sim.new {K cl μ h H p o} (s : Sim K cl μ h H) (hp : H p = none) : Sim K cl μ h (upd H p o) :=
  s.grow (grow_new hp).toGrw fun a l => by
    obtain ⟨u, e⟩ := s.live l
    exact upd_ne (ne_of_none e hp)
theorem fz_new {K cl μ h H p o} (s : Sim K cl μ h H) (hp : H p = none) : Fz μ h (upd H p o) p o := ⟨s.fresh hp, .inl upd_same⟩
/-- a new object with an id -/
def Mp.add (μ : Mp) (p : Addr) : Mp := ⟨μ.ids ++ [p], μ.res⟩
theorem grow_id {μ : Mp} {h : Hh} {H H' : Hp} {p : Addr} {ob : Ob} (hl : μ.ids.length = h.length) (hp : H p = none) (hk : ∀ q u, H q = some u → H' q = some u) : Grow μ h H (μ.add p) (h ++ [ob]) H' := by
  refine ⟨⟨fun i a e => ?_, fun a l => ?_, fun q u e _ => hk q u e⟩, rfl, fun q _ u e => hk q u e⟩
  · have := (List.getElem?_eq_some_iff.mp e).1
    show (μ.ids ++ [p])[i]? = _
    rw [List.getElem?_append_left this]; exact e
  · rcases l with l | ⟨i, o, e1, e2, n⟩
    · exact .inl (.inl l)
    · replace e1 : (μ.ids ++ [p])[i]? = some a := e1
      by_cases hi : i < μ.ids.length
      · rw [List.getElem?_append_left hi] at e1
        rw [List.getElem?_append_left (by omega)] at e2
        exact .inl (.inr ⟨i, o, e1, e2, n⟩)
      · rw [List.getElem?_append_right (by omega)] at e1
        have h1 : i - μ.ids.length = 0 := by
          have := (List.getElem?_eq_some_iff.mp e1).1
          simp at this; omega
        rw [h1] at e1
        simp at e1
        subst e1
        exact .inr hp
theorem Sim.id {K cl μ h H H' p ob} (s : Sim K cl μ h H) (hp : H p = none) (hk : ∀ q u, H q = some u → H' q = some u) (ho : OR K cl (μ.add p) (h ++ [ob]) H' p ob) : Sim K cl (μ.add p) (h ++ [ob]) H' := by
  have g := grow_id (ob := ob) s.len hp hk
  refine ⟨by simp [Mp.add, s.len], ?_, fun i a o e1 e2 => ?_, fun a ha => ?_⟩
  · show (μ.ids ++ [p]).Nodup
    rw [List.nodup_append]
    refine ⟨s.nd, by simp, fun a ha b hb => ?_⟩
    have : b = p := by simpa using hb
    subst this
    intro z; subst z
    obtain ⟨u, q⟩ := s.mem ha
    rw [hp] at q; cases q
  · replace e1 : (μ.ids ++ [p])[i]? = some a := e1
    by_cases hi : i < μ.ids.length
    · rw [List.getElem?_append_left hi] at e1
      rw [List.getElem?_append_left (by have := s.len; omega)] at e2
      have r := s.ob i a o e1 e2
      obtain ⟨u, hu⟩ := r.some
      exact r.grow g.toGrw ((hk a u hu).trans hu.symm)
    · rw [List.getElem?_append_right (by omega)] at e1
      rw [List.getElem?_append_right (by have := s.len; omega)] at e2
      have h1 : i - μ.ids.length = 0 := by
        have := (List.getElem?_eq_some_iff.mp e1).1
        simp at this; omega
      have h2 : i - h.length = 0 := by have := s.len; omega
      rw [h1] at e1
      rw [h2] at e2
      simp at e1 e2
      subst e1 e2
      exact ho
  · obtain ⟨⟨u, q⟩, n⟩ := s.rs a ha
    refine ⟨⟨u, hk a u q⟩, ?_⟩
    show a ∉ μ.ids ++ [p]
    intro m
    rcases List.mem_append.mp m with m | m
    · exact n m
    · have : a = p := by simpa using m
      subst this
      rw [hp] at q; cases q
/-- an object with an id is changed -/
theorem set_get {α : Type} {l : List α} {i j : Nat} {a b : α} (e : (l.set i a)[j]? = some b) : (j = i ∧ b = a) ∨ (j ≠ i ∧ l[j]? = some b) := by
  by_cases h : j = i
  · subst h
    by_cases hj : j < l.length
    · rw [List.getElem?_set_self hj] at e; cases e; exact .inl ⟨rfl, rfl⟩
    · rw [List.getElem?_eq_none (by simpa using hj)] at e; cases e
  · rw [List.getElem?_set_ne (Ne.symm h)] at e
    exact .inr ⟨h, e⟩
theorem grow_set {μ : Mp} {h : Hh} {H H' : Hp} {i : Nat} {a : Addr} {o ob : Ob} (hi : μ.ids[i]? = some a) (ho : h[i]? = some o) (ng : o ≠ .gone) (hk : ∀ q, q ≠ a → H' q = H q) (nr : a ∉ μ.res) : Grow μ h H μ (h.set i ob) H' := by
  refine ⟨⟨fun _ _ e => e, fun q l => ?_, fun q u e n => ?_⟩, rfl, fun q hq u e => (hk q fun z => nr (z ▸ hq)).trans e⟩
  · rcases l with l | ⟨j, oj, e1, e2, n⟩
    · exact .inl (.inl l)
    · rcases set_get e2 with ⟨rfl, _⟩ | ⟨hj, e2⟩
      · exact .inl (.inr ⟨j, o, e1, ho, ng⟩)
      · exact .inl (.inr ⟨j, oj, e1, e2, n⟩)
  · rw [hk q fun z => n (by rw [z]; exact .inr ⟨i, o, hi, ho, ng⟩)]; exact e
theorem Sim.nres {K cl μ h H} {i : Nat} {a : Addr} (s : Sim K cl μ h H) (hi : μ.ids[i]? = some a) : a ∉ μ.res := fun z => (s.rs a z).2 (List.mem_of_getElem? hi)
theorem Sim.set {K cl μ h H H' i a o ob} (s : Sim K cl μ h H) (hi : μ.ids[i]? = some a) (ho : h[i]? = some o) (ng : o ≠ .gone) (hk : ∀ q, q ≠ a → H' q = H q) (r : OR K cl μ (h.set i ob) H' a ob) : Sim K cl μ (h.set i ob) H' := by
  have g : Grow μ h H μ (h.set i ob) H' := grow_set hi ho ng hk (s.nres hi)
  refine ⟨by simp [s.len], s.nd, fun j b oj e1 e2 => ?_, fun b hb => ?_⟩
  · rcases set_get e2 with ⟨rfl, rfl⟩ | ⟨hj, e2⟩
    · rw [hi] at e1; cases e1; exact r
    · have hb : b ≠ a := fun z => hj (nodup_get s.nd (z ▸ e1) hi)
      exact (s.ob j b oj e1 e2).grow g.toGrw (hk b hb)
  · obtain ⟨⟨u, q⟩, n⟩ := s.rs b hb
    have hne : b ≠ a := fun z => n (z ▸ List.mem_of_getElem? hi)
    exact ⟨⟨u, (hk b hne).trans q⟩, n⟩

/-! ### slots -/
structure StR (K : PySem.W.Frag) (cl : En) (μ : Mp) (h : Hh) (H : Hp) (st : Sl) (σ : St) : Prop where
  len : st.length = σ.length
  at_ : ∀ (i : Nat) (v : PV), st[i]? = some (some v) → ∃ x, σ[i]? = some (some x) ∧ VR K cl μ h H v x
theorem StR.grow {K cl μ h H μ' h' H' st σ} (g : Grw μ h H μ' h' H') (r : StR K cl μ h H st σ) : StR K cl μ' h' H' st σ :=
  ⟨r.len, fun i v e => let ⟨x, e1, r1⟩ := r.at_ i v e; ⟨x, e1, VR.grow g r1⟩⟩
theorem StR.set {K cl μ h H st σ v x} (r : StR K cl μ h H st σ) (i : Nat) (rv : VR K cl μ h H v x) : StR K cl μ h H (st.set i (some v)) (σ.set i (some x)) := by
  refine ⟨by simp [r.len], fun j u e => ?_⟩
  have hl : j < st.length := by
    have := (List.getElem?_eq_some_iff.mp e).1
    simpa using this
  rcases set_get e with ⟨h1, h2⟩ | ⟨hj, h2⟩
  · have z : u = v := Option.some.inj h2
    subst h1 z
    exact ⟨x, by rw [List.getElem?_set_self (by rw [← r.len]; exact hl)], rv⟩
  · obtain ⟨y, e1, r1⟩ := r.at_ j u h2
    exact ⟨y, by rw [List.getElem?_set_ne (Ne.symm hj)]; exact e1, r1⟩
theorem StR.unset {K cl μ h H st σ} (r : StR K cl μ h H st σ) (i : Nat) (o : Option V) : StR K cl μ h H (st.set i none) (σ.set i o) := by
  refine ⟨by simp [r.len], fun j u e => ?_⟩
  rcases set_get e with ⟨h1, h2⟩ | ⟨hj, h2⟩
  · cases h2
  · obtain ⟨y, e1, r1⟩ := r.at_ j u h2
    exact ⟨y, by rw [List.getElem?_set_ne (Ne.symm hj)]; exact e1, r1⟩
end TR

set_option Elab.async false
set_option linter.all false
set_option maxRecDepth 100000
set_option maxHeartbeats 4000000
namespace TR
open PySem PySem.Spec L2

/-! ### what is wanted behind a run -/
def ExOk (K : PySem.W.Frag) (cl : En) (μ : Mp) (h : Hh) (H : Hp) (c : Nat) (fs : List (Str × PV)) (cls : Value) (d : Option Addr) : Prop :=
  cls = .ref (cl.ca c) ∧ ((fs = [] ∧ d = none) ∨ ∃ dd ys, d = some dd ∧ ¬ Live μ h dd ∧ H dd = some (.xd ys) ∧ fs.map (·.1) = ys.map (·.1) ∧ VRs K cl μ h H (fs.map (·.2)) (ys.map (·.2)))
abbrev RL (α β : Type) := Mp → Hh → Hp → α → β → Prop
structure RL.Ok {α β : Type} (R : RL α β) : Prop where
  grow : ∀ {μ h H μ' h' H' a b}, Grow μ h H μ' h' H' → R μ h H a b → R μ' h' H' a b
abbrev rV (K : PySem.W.Frag) (cl : En) : RL PV V := fun μ h H a b => VR K cl μ h H a b
abbrev rVs (K : PySem.W.Frag) (cl : En) : RL (List PV) (List V) := fun μ h H a b => VRs K cl μ h H a b
abbrev rB {α : Type} : RL α α := fun _ _ _ a b => a = b
theorem rV_ok {K cl} : (rV K cl).Ok := ⟨fun g r => VR.grow g.toGrw r⟩
theorem rVs_ok {K cl} : (rVs K cl).Ok := ⟨fun g r => VRs.grow g.toGrw r⟩
theorem rB_ok {α : Type} : (rB (α := α)).Ok := ⟨fun _ r => r⟩

section
variable (K : PySem.W.Frag) (cl : En)
/-- behind the run r, from (μ, h, H): Q of what comes, W of what is raised -/
def KO {α β : Type} (R : RL α β) (W : WX) (μ : Mp) (h : Hh) (H : Hp) (σ : St) (r : Rs α) (Q : β → Hp → Prop) : Prop :=
  match r with
  | .ok a h' => ∀ μ' H' b, Grow μ h H μ' h' H' → Sim K cl μ' h' H' → R μ' h' H' a b → Q b H'
  | .exc c fs h' => ∀ μ' H' cls d, Grow μ h H μ' h' H' → Sim K cl μ' h' H' → ExOk K cl μ' h' H' c fs cls d → W cls d σ H'
  | .bad => False
/-- the reading that a run gives -/
def gOf {α β : Type} (R : RL α β) (W : WX) (f : Sl → Hh → Rs α) : St → Hp → (β → Hp → Prop) → Prop := fun σ H Q =>
  ∃ μ st h, Sim K cl μ h H ∧ StR K cl μ h H st σ ∧ KO K cl R W μ h H σ (f st h) Q
abbrev teOf (W : WX) (f : Sl → Hh → Rs PV) : TE := gOf K cl (rV K cl) W f
abbrev taOf (W : WX) (f : Sl → Hh → Rs (List PV)) : TA := gOf K cl (rVs K cl) W f
abbrev ttOf (W : WX) (f : Sl → Hh → Rs Bool) : TT := gOf K cl rB W f
def SO (W : WX) (μ : Mp) (h : Hh) (H : Hp) (r : SR) (D : Ends) : Prop :=
  match r with
  | .nx st h' => ∀ μ' H' σ', Grow μ h H μ' h' H' → Sim K cl μ' h' H' → StR K cl μ' h' H' st σ' → D.nx σ' H'
  | .bk st h' => ∀ μ' H' σ', Grow μ h H μ' h' H' → Sim K cl μ' h' H' → StR K cl μ' h' H' st σ' → D.bk σ' H'
  | .ct st h' => ∀ μ' H' σ', Grow μ h H μ' h' H' → Sim K cl μ' h' H' → StR K cl μ' h' H' st σ' → D.ct σ' H'
  | .ret v h' => ∀ μ' H' V, Grow μ h H μ' h' H' → Sim K cl μ' h' H' → VR K cl μ' h' H' v V → D.rt V H'
  | .exc c fs st h' => ∀ μ' H' σ' cls d, Grow μ h H μ' h' H' → Sim K cl μ' h' H' → StR K cl μ' h' H' st σ' → ExOk K cl μ' h' H' c fs cls d → W cls d σ' H'
  | .bad => False
def tsOf (W : WX) (f : Sl → Hh → SR) : TS := fun D σ H => ∃ μ st h, Sim K cl μ h H ∧ StR K cl μ h H st σ ∧ SO K cl W μ h H (f st h) D
end

section
variable {K : PySem.W.Frag} {cl : En} {W : WX} {μ μ' : Mp} {h h' : Hh} {H H' : Hp} {σ σ' : St} {st : Sl}
theorem KO.grow {α β : Type} {R : RL α β} {r : Rs α} {Q : β → Hp → Prop} (g : Grow μ h H μ' h' H') (k : KO K cl R W μ h H σ r Q) : KO K cl R W μ' h' H' σ r Q := by
  cases r with
  | ok a h2 => exact fun μ2 H2 b g2 => k μ2 H2 b (g.trans g2)
  | exc c fs h2 => exact fun μ2 H2 cls d g2 => k μ2 H2 cls d (g.trans g2)
  | bad => exact k
theorem KO.imp {α β : Type} {R : RL α β} {r : Rs α} {Q Q' : β → Hp → Prop} (k : KO K cl R W μ h H σ r Q) (i : ∀ b H', Q b H' → Q' b H') : KO K cl R W μ h H σ r Q' := by
  cases r with
  | ok a h2 => exact fun μ2 H2 b g2 s2 r2 => i _ _ (k μ2 H2 b g2 s2 r2)
  | exc c fs h2 => exact k
  | bad => exact k
theorem SO.grow {r : SR} {D : Ends} (g : Grow μ h H μ' h' H') (k : SO K cl W μ h H r D) : SO K cl W μ' h' H' r D := by
  cases r with
  | nx st h2 => exact fun μ2 H2 b g2 => k μ2 H2 b (g.trans g2)
  | bk st h2 => exact fun μ2 H2 b g2 => k μ2 H2 b (g.trans g2)
  | ct st h2 => exact fun μ2 H2 b g2 => k μ2 H2 b (g.trans g2)
  | ret v h2 => exact fun μ2 H2 b g2 => k μ2 H2 b (g.trans g2)
  | exc c fs st h2 => exact fun μ2 H2 σ2 cls d g2 => k μ2 H2 σ2 cls d (g.trans g2)
  | bad => exact k
/-- one thing, then another -/
theorem KO.seq {α β γ δ : Type} {R : RL α β} {R' : RL γ δ} {r : Rs α} {k : α → Hh → Rs γ} {Q : δ → Hp → Prop} {C : β → Hp → Prop}
    (q : KO K cl R' W μ h H σ (r.bind k) Q) (hk : ∀ μ1 h1 H1 a b, Grow μ h H μ1 h1 H1 → Sim K cl μ1 h1 H1 → R μ1 h1 H1 a b → KO K cl R' W μ1 h1 H1 σ (k a h1) Q → C b H1) : KO K cl R W μ h H σ r C := by
  cases r with
  | ok a h1 => exact fun μ1 H1 b g S1 r1 => hk μ1 h1 H1 a b g S1 r1 (KO.grow g q)
  | exc c fs h1 => exact q
  | bad => exact q
/-- an expression, then a statement's end -/
def Rs.toS {α : Type} (r : Rs α) (st : Sl) (k : α → Hh → SR) : SR := match r with
  | .ok a h => k a h
  | .exc c fs h => .exc c fs st h
  | .bad => .bad
theorem SO.seq {α β : Type} {R : RL α β} {r : Rs α} {k : α → Hh → SR} {D : Ends} {C : β → Hp → Prop} (L : StR K cl μ h H st σ)
    (q : SO K cl W μ h H (r.toS st k) D) (hk : ∀ μ1 h1 H1 a b, Grow μ h H μ1 h1 H1 → Sim K cl μ1 h1 H1 → StR K cl μ1 h1 H1 st σ → R μ1 h1 H1 a b → SO K cl W μ1 h1 H1 (k a h1) D → C b H1) : KO K cl R W μ h H σ r C := by
  cases r with
  | ok a h1 => exact fun μ1 H1 b g S1 r1 => hk μ1 h1 H1 a b g S1 (L.grow g.toGrw) r1 (SO.grow g q)
  | exc c fs h1 => exact fun μ1 H1 cls d g S1 x => q μ1 H1 σ cls d g S1 (L.grow g.toGrw) x
  | bad => exact q
end

section
variable {X : Cx} {e a b c : Expr} {te te' : TE} {pos : Pos}
theorem PE.w (p : PE X e te) (i : ∀ σ H Q, te' σ H Q → te σ H Q) : PE X e te' := ⟨fun pins s σ H Q I h => p.run pins s σ H Q I (i σ H Q h)⟩
theorem PT.w {t t' : TT} (p : PT X e t) (i : ∀ σ H Q, t' σ H Q → t σ H Q) : PT X e t' := ⟨fun pins s σ H Q I h => p.run pins s σ H Q I (i σ H Q h)⟩
theorem PW.w {t t' : TT} (p : PW X e t) (i : ∀ σ H Q, t' σ H Q → t σ H Q) : PW X e t' := ⟨fun wh pins s σ H Q I h => p.run wh pins s σ H Q I (i σ H Q h)⟩
theorem PA.w {es : List Expr} {t t' : TA} (p : PA X es t) (i : ∀ σ H Q, t' σ H Q → t σ H Q) : PA X es t' := ⟨fun ps pins s σ H Q I h => p.run ps pins s σ H Q I (i σ H Q h)⟩
theorem PS.w {s : Stmt} {t t' : TS} (p : PS X s t) (i : ∀ D σ H, t' D σ H → t D σ H) : PS X s t' := ⟨fun pins s σ H D I h => p.run pins s σ H D I (i D σ H h)⟩
theorem PSs.w {s : List Stmt} {t t' : TS} (p : PSs X s t) (i : ∀ D σ H, t' D σ H → t D σ H) : PSs X s t' := ⟨fun pins s σ H D I h => p.run pins s σ H D I (i D σ H h)⟩
end
abbrev Ex := Sl → Hh → Rs PV
abbrev Ea := Sl → Hh → Rs (List PV)
abbrev Eb := Sl → Hh → Rs Bool
abbrev Sx := Sl → Hh → SR

/-! ### names, constants, arguments -/
def xVar (i : Nat) : Ex := fun st h => match st[i]? with
  | some (some v) => .ok v h
  | _ => .bad
def xC (v : PV) : Ex := fun _ h => .ok v h
def aNil : Ea := fun _ h => .ok [] h
def aCons (f : Ex) (g : Ea) : Ea := fun st h => (f st h).bind fun v h1 => (g st h1).bind fun vs h2 => .ok (v :: vs) h2
section
variable {X : Cx} {cl : En} {W : WX}
theorem e_var {e : Expr} (i : Nat) (p : PE X e (tVar i)) : PE X e (teOf X.K cl W (xVar i)) := by
  refine PE.w p fun σ H Q ⟨μ, st, h, S, L, k⟩ => ?_
  unfold xVar at k
  cases e1 : st[i]? with
  | none => rw [e1] at k; exact k.elim
  | some o =>
    cases o with
    | none => rw [e1] at k; exact k.elim
    | some v =>
      rw [e1] at k
      obtain ⟨x, ex, r⟩ := L.at_ i v e1
      exact ⟨x, ex, k μ H x (Grow.refl _ _ _) S r⟩
/-- a constant's value -/
theorem e_c {e : Expr} {v : PV} {x : V} (p : PE X e (tC x)) (r : ∀ μ h H, VR X.K cl μ h H v x) : PE X e (teOf X.K cl W (xC v)) :=
  PE.w p fun σ H Q ⟨μ, st, h, S, L, k⟩ => k μ H x (Grow.refl _ _ _) S (r μ h H)
theorem e_int {i j pos} : PE X (.Constant (.int i) j pos) (teOf X.K cl W (xC (.int i))) := e_c pe_int fun _ _ _ => .int
theorem e_bl {i j pos} : PE X (.Constant (.bool i) j pos) (teOf X.K cl W (xC (.bl i))) := e_c pe_bl fun _ _ _ => .bl
theorem e_non {j pos} : PE X (.Constant .none j pos) (teOf X.K cl W (xC .non)) := e_c pe_non fun _ _ _ => .non
theorem e_str {x j pos} : PE X (.Constant (.str x) j pos) (teOf X.K cl W (xC (.str x))) := e_c pe_str fun _ _ _ => .str
theorem a_nil : PA X [] (taOf X.K cl W aNil) := PA.w pa_nil fun σ H Q ⟨μ, st, h, S, L, k⟩ => k μ H [] (Grow.refl _ _ _) S .nil
theorem a_cons {e : Expr} {es : List Expr} {f : Ex} {g : Ea} (p : PE X e (teOf X.K cl W f)) (q : PA X es (taOf X.K cl W g)) (he : starEach (e :: es) X.env = (false, eval e X.env) :: starEach es X.env := by rfl) : PA X (e :: es) (taOf X.K cl W (aCons f g)) := by
  refine PA.w (pa_cons p q he) fun σ H Q ⟨μ, st, h, S, L, k⟩ => ⟨μ, st, h, S, L, KO.seq k fun μ1 h1 H1 a x g1 S1 r1 k1 => ?_⟩
  refine ⟨μ1, st, h1, S1, L.grow g1.toGrw, KO.seq k1 fun μ2 h2 H2 b y g2 S2 r2 k2 => ?_⟩
  exact k2 μ2 H2 (x :: y) (Grow.refl _ _ _) S2 (.cons (VR.grow g2.toGrw r1) r2)
end

/-! ### operators, calls of built-ins, methods: by values -/
/-- a run of two values keeps to a reading of two values -/
def VOp (K : PySem.W.Frag) (cl : En) (g : PV → PV → Hh → Rs PV) (r : R2) : Prop :=
  ∀ μ h H a b A B (W : WX) σ Q, Sim K cl μ h H → VR K cl μ h H a A → VR K cl μ h H b B → KO K cl (rV K cl) W μ h H σ (g a b h) Q → r A B H Q
def VCall (K : PySem.W.Frag) (cl : En) (g : List PV → Hh → Rs PV) (r : List V → Hp → VK → Prop) : Prop :=
  ∀ μ h H as AS (W : WX) σ Q, Sim K cl μ h H → VRs K cl μ h H as AS → KO K cl (rV K cl) W μ h H σ (g as h) Q → r AS H Q
def VMt (K : PySem.W.Frag) (cl : En) (g : PV → List PV → Hh → Rs PV) (r : V → List V → Hp → VK → Prop) : Prop :=
  ∀ μ h H a as A AS (W : WX) σ Q, Sim K cl μ h H → VR K cl μ h H a A → VRs K cl μ h H as AS → KO K cl (rV K cl) W μ h H σ (g a as h) Q → r A AS H Q
def xOp (g : PV → PV → Hh → Rs PV) (f1 f2 : Ex) : Ex := fun st h => (f1 st h).bind fun a h1 => (f2 st h1).bind fun b h2 => g a b h2
def xCall (g : List PV → Hh → Rs PV) (fa : Ea) : Ex := fun st h => (fa st h).bind fun as h1 => g as h1
def xMt (g : PV → List PV → Hh → Rs PV) (fo : Ex) (fa : Ea) : Ex := fun st h => (fo st h).bind fun a h1 => (fa st h1).bind fun as h2 => g a as h2
end TR

set_option Elab.async false
set_option linter.all false
set_option maxRecDepth 100000
set_option maxHeartbeats 4000000
namespace TR
open PySem PySem.Spec L2
section
variable {K : PySem.W.Frag} {cl : En} {W : WX} {μ : Mp} {h : Hh} {H : Hp} {σ : St}
theorem vInt {i x} (r : VR K cl μ h H (.int i) x) : x = .int i := by cases r; rfl
theorem vBl {i x} (r : VR K cl μ h H (.bl i) x) : x = .bl i := by cases r; rfl
theorem vNon {x} (r : VR K cl μ h H .non x) : x = .non := by cases r; rfl
theorem vStr {i x} (r : VR K cl μ h H (.str i) x) : x = .str i := by cases r; rfl
/-- lists that are read -/
def asL (v : PV) (h : Hh) : Option (List PV) := match v with
  | .lst l => some l
  | .scr l => some l
  | .ref i => match h[i]? with
    | some (.lst l) => some l
    | _ => none
  | _ => none
/-- lists that stand by themselves -/
def asLm (v : PV) (h : Hh) : Option (List PV) := match v with
  | .lst l => some l
  | .ref i => match h[i]? with
    | some (.lst l) => some l
    | _ => none
  | _ => none
def asT (v : PV) : Option (List PV) := match v with
  | .tup l => some l
  | _ => none
theorem Sim.at (S : Sim K cl μ h H) {i : Nat} {a : Addr} {o : Ob} (e1 : μ.ids[i]? = some a) (e2 : h[i]? = some o) : OR K cl μ h H a o := S.ob i a o e1 e2
theorem asLm_ok {v x l} (S : Sim K cl μ h H) (r : VR K cl μ h H v x) (e : asLm v h = some l) : ∃ p xs, x = .ref p ∧ H p = some (.lst xs) ∧ VRs K cl μ h H l xs := by
  unfold asLm at e
  cases v with
  | lst l' =>
    cases e
    cases r with
    | lst n f r => exact ⟨_, _, rfl, f, r⟩
  | ref i =>
    cases r with
    | ref q =>
      cases e1 : h[i]? with
      | none => simp [e1] at e
      | some o =>
        cases o with
        | lst l' =>
          simp [e1] at e
          subst e
          cases S.at q e1 with
          | lst f r => exact ⟨_, _, rfl, f, r⟩
        | dct _ => simp [e1] at e
        | dcn _ => simp [e1] at e
        | ins _ _ => simp [e1] at e
        | gone => simp [e1] at e
  | _ => cases e
theorem asL_ok {v x l} (S : Sim K cl μ h H) (r : VR K cl μ h H v x) (e : asL v h = some l) : ∃ p xs, x = .ref p ∧ SqL K H p xs ∧ VRs K cl μ h H l xs := by
  by_cases hs : ∃ l', v = .scr l'
  · obtain ⟨l', rfl⟩ := hs
    cases e
    cases r with
    | scr f r => exact ⟨_, _, rfl, .inl f.2, r⟩
    | kscr f r => exact ⟨_, _, rfl, .inr f, r⟩
  · have e' : asLm v h = some l := by
      cases v with
      | scr l' => exact absurd ⟨l', rfl⟩ hs
      | _ => exact e
    obtain ⟨p, xs, rfl, hp, rs⟩ := asLm_ok S r e'
    exact ⟨p, xs, rfl, SqL.of hp, rs⟩
theorem tup_ok {x l} (r : VR K cl μ h H (.tup l) x) : ∃ p xs, x = .ref p ∧ SqT K H p xs ∧ VRs K cl μ h H l xs := by
  cases r with
  | tup f r => exact ⟨_, _, rfl, .inl f.2, r⟩
  | ktup f r => exact ⟨_, _, rfl, .inr f, r⟩
/-- a value that needs no new object -/
theorem KO.now {α β : Type} {R : RL α β} {a : α} {b : β} {Q : β → Hp → Prop} (S : Sim K cl μ h H) (r : R μ h H a b) (k : KO K cl R W μ h H σ (.ok a h) Q) : Q b H := k μ H b (Grow.refl _ _ _) S r
/-- a new tuple, a new list that stays -/
theorem KO.tup {l xs} {Q : VK} (S : Sim K cl μ h H) (r : VRs K cl μ h H l xs) (k : KO K cl (rV K cl) W μ h H σ (.ok (.tup l) h) Q) : ∀ p, H p = none → Q (.ref p) (upd H p (.tup xs)) := fun p hp =>
  k μ (upd H p (.tup xs)) (.ref p) (grow_new hp) (S.new hp) (.tup (fz_new S hp) (VRs.grow (grow_new hp).toGrw r))
theorem KO.lst {l xs} {Q : VK} (S : Sim K cl μ h H) (r : VRs K cl μ h H l xs) (k : KO K cl (rV K cl) W μ h H σ (.ok (.lst l) h) Q) : ∀ p, H p = none → Q (.ref p) (upd H p (.lst xs)) := fun p hp =>
  k μ (upd H p (.lst xs)) (.ref p) (grow_new hp) (S.new hp) (.lst (S.fresh hp) upd_same (VRs.grow (grow_new hp).toGrw r))
/-- a new list with an id -/
theorem KO.lstI {l xs} {Q : VK} (S : Sim K cl μ h H) (r : VRs K cl μ h H l xs) (k : KO K cl (rV K cl) W μ h H σ (.ok (.ref h.length) (h ++ [.lst l])) Q) : ∀ p, H p = none → Q (.ref p) (upd H p (.lst xs)) := fun p hp => by
  have hk : ∀ q u, H q = some u → upd H p (.lst xs) q = some u := fun q u e => by rw [upd_ne (ne_of_none e hp)]; exact e
  have g := grow_id (ob := .lst l) S.len hp hk
  refine k (μ.add p) _ (.ref p) g (S.id hp hk (.lst upd_same (VRs.grow g.toGrw r))) (.ref ?_)
  show (μ.ids ++ [p])[h.length]? = some p
  rw [← S.len, List.getElem?_append_right (Nat.le_refl _)]; simp
end

/-! ### ints -/
def gI2 (C : Int → Int → Bool) (f : Int → Int → PV) (a b : PV) (h : Hh) : Rs PV := match a, b with
  | .int i, .int j => if C i j then .ok (f i j) h else .bad
  | _, _ => .bad
def gAdd := gI2 (fun _ _ => true) fun i j => .int (i + j)
def gSub := gI2 (fun _ _ => true) fun i j => .int (i - j)
def bMul (i j : Int) : Bool := (decide (-(2 ^ 64) < i) && decide (i < 2 ^ 64)) || (decide (-(2 ^ 64) < j) && decide (j < 2 ^ 64))
def gMul := gI2 bMul fun i j => .int (i * j)
def gDiv := gI2 (fun _ j => decide (0 < j) && decide (j < 1073741824)) fun i j => .int (i / j)
def gMod := gI2 (fun _ j => decide (0 < j)) fun i j => .int (i % j)
def gPow := gI2 (fun i j => decide (0 ≤ j) && decide (j ≤ 1000000) && decide (i.natAbs < 2 ^ 64)) fun i j => .int (i ^ j.toNat)
def gLt := gI2 (fun _ _ => true) fun i j => .bl (decide (i < j))
def gLe := gI2 (fun _ _ => true) fun i j => .bl (decide (i ≤ j))
def gGt := gI2 (fun _ _ => true) fun i j => .bl (decide (j < i))
def gGe := gI2 (fun _ _ => true) fun i j => .bl (decide (j ≤ i))
section
variable {K : PySem.W.Frag} {cl : En}
theorem v_i2 {C : Int → Int → Bool} {f : Int → Int → PV} {fv : Int → Int → V} {P : Int → Int → Prop} (hp : ∀ i j, C i j = true → P i j) (hf : ∀ i j μ h H, VR K cl μ h H (f i j) (fv i j)) : VOp K cl (gI2 C f) (rI P fv) := by
  intro μ h H a b A B W σ Q S ra rb k
  unfold gI2 at k
  split at k
  · rename_i i j
    cases vInt ra
    cases vInt rb
    split at k
    · rename_i hc
      exact ⟨i, j, rfl, rfl, hp i j hc, KO.now S (hf i j μ h H) k⟩
    · exact k.elim
  · exact k.elim
theorem v_i0 {f : Int → Int → PV} {fv : Int → Int → V} (hf : ∀ i j μ h H, VR K cl μ h H (f i j) (fv i j)) : VOp K cl (gI2 (fun _ _ => true) f) (rI0 fv) := by
  intro μ h H a b A B W σ Q S ra rb k
  unfold gI2 at k
  split at k
  · rename_i i j
    cases vInt ra
    cases vInt rb
    exact ⟨i, j, rfl, rfl, KO.now S (hf i j μ h H) k⟩
  · exact k.elim
theorem v_add : VOp K cl gAdd (rI0 fun i j => .int (i + j)) := v_i0 fun _ _ _ _ _ => .int
theorem v_sub : VOp K cl gSub (rI0 fun i j => .int (i - j)) := v_i0 fun _ _ _ _ _ => .int
theorem v_mul : VOp K cl gMul (rI CMul fun i j => .int (i * j)) := v_i2 (fun i j e => by
  unfold bMul at e
  simp only [Bool.or_eq_true, Bool.and_eq_true, decide_eq_true_eq] at e
  exact e) fun _ _ _ _ _ => .int
theorem v_div : VOp K cl gDiv (rI CDiv fun i j => .int (i / j)) := v_i2 (fun i j e => by
  simp only [Bool.and_eq_true, decide_eq_true_eq] at e
  exact e) fun _ _ _ _ _ => .int
theorem v_mod : VOp K cl gMod (rI (fun _ j => 0 < j) fun i j => .int (i % j)) := v_i2 (fun i j e => by simpa using e) fun _ _ _ _ _ => .int
theorem v_pow : VOp K cl gPow (rI CPow fun i j => .int (i ^ j.toNat)) := v_i2 (fun i j e => by
  simp only [Bool.and_eq_true, decide_eq_true_eq] at e
  exact ⟨e.1.1, e.1.2, e.2⟩) fun _ _ _ _ _ => .int
theorem v_lt : VOp K cl gLt (rI0 fun i j => .bl (decide (i < j))) := v_i0 fun _ _ _ _ _ => .bl
theorem v_le : VOp K cl gLe (rI0 fun i j => .bl (decide (i ≤ j))) := v_i0 fun _ _ _ _ _ => .bl
theorem v_gt : VOp K cl gGt (rI0 fun i j => .bl (decide (j < i))) := v_i0 fun _ _ _ _ _ => .bl
theorem v_ge : VOp K cl gGe (rI0 fun i j => .bl (decide (j ≤ i))) := v_i0 fun _ _ _ _ _ => .bl
end

/-! ### texts, lists, tuples -/
def gCatS (a b : PV) (h : Hh) : Rs PV := match a, b with
  | .str x, .str y => if x.length + y.length ≤ sizeLine then .ok (.str (x ++ y)) h else .bad
  | _, _ => .bad
def gCatL (a b : PV) (h : Hh) : Rs PV := match asLm a h, asLm b h with
  | some l, some m => if l.length + m.length ≤ sizeLine then .ok (.lst (l ++ m)) h else .bad
  | _, _ => .bad
def gRepL (a b : PV) (h : Hh) : Rs PV := match asLm a h, b with
  | some l, .int k => if -(2 ^ 63) ≤ k ∧ k < 2 ^ 63 ∧ l.length * k.toNat ≤ sizeLine then .ok (.lst (List.replicate k.toNat l).flatten) h else .bad
  | _, _ => .bad
def gLtS (a b : PV) (h : Hh) : Rs PV := match a, b with
  | .str x, .str y => .ok (.bl (decide (x.cps.toList < y.cps.toList))) h
  | _, _ => .bad
def gLeS (a b : PV) (h : Hh) : Rs PV := match a, b with
  | .str x, .str y => .ok (.bl (!decide (y.cps.toList < x.cps.toList))) h
  | _, _ => .bad
def gIsN (neg : Bool) (a b : PV) (h : Hh) : Rs PV := match b with
  | .non => .ok (.bl (match a with | .non => !neg | _ => neg)) h
  | _ => .bad
def gIxL (a b : PV) (h : Hh) : Rs PV := match asL a h, b with
  | some l, .int i => match atI l i with
    | some v => .ok v h
    | none => .bad
  | _, _ => .bad
def gIxT (a b : PV) (h : Hh) : Rs PV := match a, b with
  | .tup l, .int i => match atI l i with
    | some v => .ok v h
    | none => .bad
  | _, _ => .bad
section
variable {K : PySem.W.Frag} {cl : En} {μ : Mp} {h : Hh} {H : Hp}
theorem vrs_rep {l xs} (r : VRs K cl μ h H l xs) : ∀ n : Nat, VRs K cl μ h H (List.replicate n l).flatten (List.replicate n xs).flatten
  | 0 => .nil
  | n + 1 => by
    rw [List.replicate_succ, List.replicate_succ, List.flatten_cons, List.flatten_cons]
    exact VRs.append r (vrs_rep r n)
theorem vrs_atI {l xs} {i : Int} {v} (r : VRs K cl μ h H l xs) (e : atI l i = some v) : ∃ x, atI xs i = some x ∧ VR K cl μ h H v x := by
  unfold atI at e ⊢
  rw [← VRs.length r]
  cases hj : ixN l.length i with
  | none => rw [hj] at e; cases e
  | some j =>
    rw [hj] at e
    exact VRs.get r e
theorem v_catS : VOp K cl gCatS (fun x y H Q => ∃ i j, x = .str i ∧ y = .str j ∧ i.length + j.length ≤ sizeLine ∧ Q (.str (i ++ j)) H) := by
  intro μ h H a b A B W σ Q S ra rb k
  unfold gCatS at k
  split at k
  · cases vStr ra
    cases vStr rb
    split at k
    · rename_i hl
      exact ⟨_, _, rfl, rfl, hl, KO.now S .str k⟩
    · exact k.elim
  · exact k.elim
theorem v_catL : VOp K cl gCatL rCat := by
  intro μ h H a b A B W σ Q S ra rb k
  unfold gCatL at k
  split at k
  · rename_i l m e1 e2
    obtain ⟨p, xs, rfl, hp, r1⟩ := asLm_ok S ra e1
    obtain ⟨q, ys, rfl, hq, r2⟩ := asLm_ok S rb e2
    split at k
    · rename_i hl
      exact ⟨p, q, xs, ys, rfl, rfl, hp, hq, by rw [← VRs.length r1, ← VRs.length r2]; exact hl, KO.lst S (VRs.append r1 r2) k⟩
    · exact k.elim
  · exact k.elim
theorem v_repL : VOp K cl gRepL rRep := by
  intro μ h H a b A B W σ Q S ra rb k
  unfold gRepL at k
  split at k
  · rename_i l n e1
    obtain ⟨p, xs, rfl, hp, r1⟩ := asLm_ok S ra e1
    cases vInt rb
    split at k
    · rename_i hl
      exact ⟨p, n, xs, rfl, rfl, hp, hl.1, hl.2.1, by rw [← VRs.length r1]; exact hl.2.2, KO.lst S (vrs_rep r1 _) k⟩
    · exact k.elim
  · exact k.elim
theorem v_ltS : VOp K cl gLtS (fun x y H Q => ∃ i j, x = .str i ∧ y = .str j ∧ Q (.bl (decide (i.cps.toList < j.cps.toList))) H) := by
  intro μ h H a b A B W σ Q S ra rb k
  unfold gLtS at k
  split at k
  · cases vStr ra
    cases vStr rb
    exact ⟨_, _, rfl, rfl, KO.now S .bl k⟩
  · exact k.elim
theorem v_leS : VOp K cl gLeS (fun x y H Q => ∃ i j, x = .str i ∧ y = .str j ∧ Q (.bl (!decide (j.cps.toList < i.cps.toList))) H) := by
  intro μ h H a b A B W σ Q S ra rb k
  unfold gLeS at k
  split at k
  · cases vStr ra
    cases vStr rb
    exact ⟨_, _, rfl, rfl, KO.now S .bl k⟩
  · exact k.elim
theorem v_isN : VOp K cl (gIsN false) (fun x y H Q => y = .non ∧ Q (.bl (decide (x = .non))) H) := by
  intro μ h H a b A B W σ Q S ra rb k
  unfold gIsN at k
  split at k
  · cases vNon rb
    refine ⟨rfl, KO.now S ?_ k⟩
    cases ra <;> exact .bl
  · exact k.elim
theorem v_notN : VOp K cl (gIsN true) (fun x y H Q => y = .non ∧ Q (.bl (!decide (x = .non))) H) := by
  intro μ h H a b A B W σ Q S ra rb k
  unfold gIsN at k
  split at k
  · cases vNon rb
    refine ⟨rfl, KO.now S ?_ k⟩
    cases ra <;> exact .bl
  · exact k.elim
theorem v_ixL : VOp K cl gIxL (rIxL K) := by
  intro μ h H a b A B W σ Q S ra rb k
  unfold gIxL at k
  split at k
  · rename_i l i e1
    obtain ⟨p, xs, rfl, hp, r1⟩ := asL_ok S ra e1
    cases vInt rb
    split at k
    · rename_i v e2
      obtain ⟨x, e3, r3⟩ := vrs_atI r1 e2
      exact ⟨p, xs, i, x, rfl, rfl, hp, e3, KO.now S r3 k⟩
    · exact k.elim
  · exact k.elim
theorem v_ixT : VOp K cl gIxT (rIxT K) := by
  intro μ h H a b A B W σ Q S ra rb k
  unfold gIxT at k
  split at k
  · rename_i l i
    obtain ⟨p, xs, rfl, hp, r1⟩ := tup_ok ra
    cases vInt rb
    split at k
    · rename_i v e2
      obtain ⟨x, e3, r3⟩ := vrs_atI r1 e2
      exact ⟨p, xs, i, x, rfl, rfl, hp, e3, KO.now S r3 k⟩
    · exact k.elim
  · exact k.elim
end

section
variable {X : Cx} {cl : En} {W : WX} {e a b c : Expr} {f1 f2 f3 : Ex} {pos : Pos}
theorem e_op {op : Operator} {g r} (ho : OpR X (binaryOp op) r) (v : VOp X.K cl g r) (p : PE X a (teOf X.K cl W f1)) (q : PE X b (teOf X.K cl W f2)) : PE X (.BinOp a op b pos) (teOf X.K cl W (xOp g f1 f2)) :=
  PE.w (pe_op ho p q) fun σ H Q ⟨μ, st, h, S, L, k⟩ => ⟨μ, st, h, S, L, KO.seq k fun μ1 h1 H1 a x g1 S1 r1 k1 =>
    ⟨μ1, st, h1, S1, L.grow g1.toGrw, KO.seq k1 fun μ2 h2 H2 b y g2 S2 r2 k2 => v _ _ _ _ _ _ _ W σ Q S2 (VR.grow g2.toGrw r1) r2 k2⟩⟩
theorem e_cmp {op : CmpOp} {g r} (ho : OpR X (compareOp op) r) (v : VOp X.K cl g r) (p : PE X a (teOf X.K cl W f1)) (q : PE X b (teOf X.K cl W f2)) (hm : behindInMarks op b = false) : PE X (.Compare a [op] [b] pos) (teOf X.K cl W (xOp g f1 f2)) :=
  PE.w (pe_cmpR ho p q hm) fun σ H Q ⟨μ, st, h, S, L, k⟩ => ⟨μ, st, h, S, L, KO.seq k fun μ1 h1 H1 a x g1 S1 r1 k1 =>
    ⟨μ1, st, h1, S1, L.grow g1.toGrw, KO.seq k1 fun μ2 h2 H2 b y g2 S2 r2 k2 => v _ _ _ _ _ _ _ W σ Q S2 (VR.grow g2.toGrw r1) r2 k2⟩⟩
theorem e_ix {g r} (hr : IxR X r) (v : VOp X.K cl g r) (p : PE X a (teOf X.K cl W f1)) (q : PE X b (teOf X.K cl W f2)) (hs : PlainIx b) : PE X (.Subscript a b pos) (teOf X.K cl W (xOp g f1 f2)) :=
  PE.w (pe_ix hr p q hs) fun σ H Q ⟨μ, st, h, S, L, k⟩ => ⟨μ, st, h, S, L, KO.seq k fun μ1 h1 H1 a x g1 S1 r1 k1 =>
    ⟨μ1, st, h1, S1, L.grow g1.toGrw, KO.seq k1 fun μ2 h2 H2 b y g2 S2 r2 k2 => v _ _ _ _ _ _ _ W σ Q S2 (VR.grow g2.toGrw r1) r2 k2⟩⟩
end
end TR

set_option Elab.async false
set_option linter.all false
set_option maxRecDepth 100000
set_option maxHeartbeats 4000000
namespace TR
open PySem PySem.Spec L2

/-! ### tests -/
/-- a value's truth -/
def truG : PV → Hh → Option Bool
  | .non, _ => some false
  | .bl b, _ => some b
  | .int i, _ => some (i != 0)
  | .str y, _ => if y.length ≤ sizeLine then some ((y.length : Int) != 0) else none
  | .tup l, _ => some (!l.isEmpty)
  | .lst l, _ => some (!l.isEmpty)
  | .scr l, _ => some (!l.isEmpty)
  | .dct l, _ => some (!l.isEmpty)
  | .dcn _, _ => none
  | .ref i, h => match h[i]? with
    | some (.lst l) => some (!l.isEmpty)
    | _ => none
  | .cls _, _ => none
  | .ty _, _ => none
def bOf (f : Ex) : Eb := fun st h => (f st h).bind fun v h1 => match v with
  | .bl b => .ok b h1
  | _ => .bad
def bTru (f : Ex) : Eb := fun st h => (f st h).bind fun v h1 => match truG v h1 with
  | some b => .ok b h1
  | none => .bad
def bAnd (f g : Eb) : Eb := fun st h => (f st h).bind fun b h1 => if b = true then g st h1 else .ok false h1
def bOr (f g : Eb) : Eb := fun st h => (f st h).bind fun b h1 => if b = true then .ok true h1 else g st h1
def bNot (f : Eb) : Eb := fun st h => (f st h).bind fun b h1 => .ok (!b) h1
section
variable {K : PySem.W.Frag} {cl : En} {W : WX} {μ : Mp} {h : Hh} {H : Hp} {σ : St}
theorem isE_vrs {l xs} (r : VRs K cl μ h H l xs) : (!l.isEmpty) = !xs.isEmpty := by cases r <;> rfl
theorem isE_map {α β γ : Type} {l : List α} {xs : List β} {f : α → γ} {g : β → γ} (e : l.map f = xs.map g) : (!l.isEmpty) = !xs.isEmpty := by
  cases l <;> cases xs <;> simp_all
theorem tru_okG {v x b} (S : Sim K cl μ h H) (r : VR K cl μ h H v x) (e : truG v h = some b) : TruV K x H b := by
  cases r with
  | non => cases e; exact rfl
  | bl => cases e; exact rfl
  | int => cases e; exact rfl
  | str =>
    simp only [truG] at e
    split at e
    · rename_i q
      cases e
      exact ⟨q, rfl⟩
    · cases e
  | tup f r => cases e; exact .inr (.inl ⟨_, .inl f.2, isE_vrs r⟩)
  | ktup f r => cases e; exact .inr (.inl ⟨_, .inr f, isE_vrs r⟩)
  | lst n f r => cases e; exact .inl ⟨_, SqL.of f, isE_vrs r⟩
  | scr f r => cases e; exact .inl ⟨_, .inl f.2, isE_vrs r⟩
  | kscr f r => cases e; exact .inl ⟨_, .inr f, isE_vrs r⟩
  | dct n f e1 d r => cases e; exact .inr (.inr ⟨_, f, isE_map e1⟩)
  | dctN n f e1 d r => cases e
  | ref q =>
    simp only [truG] at e
    split at e
    · rename_i l e1
      cases e
      cases S.at q e1 with
      | lst f r => exact .inl ⟨_, SqL.of f, isE_vrs r⟩
    · cases e
  | cls => cases e
  | ty => cases e
end
section
variable {X : Cx} {cl : En} {W : WX} {e a b c : Expr} {f1 f2 f3 : Ex} {g1 g2 : Eb} {pos : Pos} {rest : List Expr}
/-- a test of a value that is True or False -/
theorem b_of (p : PE X e (teOf X.K cl W f1)) (he : ∀ whole, isTrue e X.env whole = (do let v ← whole; standAt e.pos; holding [v] (truthy v)) := by intro _; rfl) : PT X e (ttOf X.K cl W (bOf f1)) :=
  PT.w (pt_val p he) fun σ H Q ⟨μ, st, h, S, L, k⟩ => ⟨μ, st, h, S, L, KO.seq k fun μ1 h1 H1 a x g1 S1 r1 k1 => by
    cases r1 with
    | bl => exact ⟨_, rfl, KO.now (R := rB) S1 rfl k1⟩
    | _ => exact k1.elim⟩
theorem b_cmp {op : CmpOp} {g r} (ho : OpR X (compareOp op) r) (v : VOp X.K cl g r) (p : PE X a (teOf X.K cl W f1)) (q : PE X b (teOf X.K cl W f2)) (hm : behindInMarks op b = false) : PT X (.Compare a [op] [b] pos) (ttOf X.K cl W (bOf (xOp g f1 f2))) :=
  PT.w (pt_cmpR ho p q hm) fun σ H Q ⟨μ, st, h, S, L, k⟩ => by
    have k' : KO X.K cl rB W μ h H σ ((f1 st h).bind fun a h1 => ((f2 st h1).bind fun b h2 => g a b h2).bind fun v h3 => match v with | .bl b => .ok b h3 | _ => .bad) Q := by
      have k0 : KO X.K cl rB W μ h H σ (((f1 st h).bind fun a h1 => (f2 st h1).bind fun b h2 => g a b h2).bind fun v h3 => match v with | .bl b => .ok b h3 | _ => .bad) Q := k
      cases e1 : f1 st h with
      | ok a1 h1 => rw [e1] at k0; exact k0
      | exc c fs h1 => rw [e1] at k0; exact k0
      | bad => rw [e1] at k0; exact k0
    refine ⟨μ, st, h, S, L, KO.seq k' fun μ1 h1 H1 a x g1 S1 r1 k1 => ?_⟩
    have k2' : KO X.K cl rB W μ1 h1 H1 σ ((f2 st h1).bind fun b h2 => (g a b h2).bind fun v h3 => match v with | .bl b => .ok b h3 | _ => .bad) Q := by
      cases e2 : f2 st h1 with
      | ok a1 h1 => rw [e2] at k1; exact k1
      | exc c fs h1 => rw [e2] at k1; exact k1
      | bad => rw [e2] at k1; exact k1
    refine ⟨μ1, st, h1, S1, L.grow g1.toGrw, KO.seq k2' fun μ2 h2 H2 b y g2 S2 r2 k2 => ?_⟩
    refine v _ _ _ _ _ _ _ W σ _ S2 (VR.grow g2.toGrw r1) r2 (KO.seq k2 fun μ3 h3 H3 z zv g3 S3 r3 k3 => ?_)
    cases r3 with
    | bl => exact ⟨_, rfl, KO.now (R := rB) S3 rfl k3⟩
    | _ => exact k3.elim
theorem b_tru (p : PE X e (teOf X.K cl W f1)) (he : ∀ whole, isTrue e X.env whole = (do let v ← whole; standAt e.pos; holding [v] (truthy v)) := by intro _; rfl) : PT X e (ttOf X.K cl W (bTru f1)) :=
  PT.w (pt_truth p he) fun σ H Q ⟨μ, st, h, S, L, k⟩ => ⟨μ, st, h, S, L, KO.seq k fun μ1 h1 H1 a x g1 S1 r1 k1 => by
    split at k1
    · rename_i b e1
      exact ⟨b, tru_okG S1 r1 e1, KO.now (R := rB) S1 rfl k1⟩
    · exact k1.elim⟩
theorem b_not (p : PT X a (ttOf X.K cl W g1)) : PT X (.UnaryOp .Not a pos) (ttOf X.K cl W (bNot g1)) :=
  PT.w (pt_not p) fun σ H Q ⟨μ, st, h, S, L, k⟩ => ⟨μ, st, h, S, L, KO.seq k fun μ1 h1 H1 a x gg S1 r1 k1 => by
    have e : a = x := r1
    subst e
    exact KO.now (R := rB) S1 rfl k1⟩
theorem w_and1 (p : PT X a (ttOf X.K cl W g1)) : PW X (.BoolOp .And [a] pos) (ttOf X.K cl W g1) := pw_and1 p
theorem w_or1 (p : PT X a (ttOf X.K cl W g1)) : PW X (.BoolOp .Or [a] pos) (ttOf X.K cl W g1) := pw_or1 p
theorem w_and (p : PT X a (ttOf X.K cl W g1)) (q : PW X (.BoolOp .And (b :: rest) pos) (ttOf X.K cl W g2)) : PW X (.BoolOp .And (a :: b :: rest) pos) (ttOf X.K cl W (bAnd g1 g2)) :=
  PW.w (pw_and p q) fun σ H Q ⟨μ, st, h, S, L, k⟩ => ⟨μ, st, h, S, L, KO.seq k fun μ1 h1 H1 a x gg S1 r1 k1 => by
    have e : a = x := r1
    subst e
    cases a with
    | true => exact ⟨μ1, st, h1, S1, L.grow gg.toGrw, k1⟩
    | false => exact KO.now (R := rB) S1 rfl k1⟩
theorem w_or (p : PT X a (ttOf X.K cl W g1)) (q : PW X (.BoolOp .Or (b :: rest) pos) (ttOf X.K cl W g2)) : PW X (.BoolOp .Or (a :: b :: rest) pos) (ttOf X.K cl W (bOr g1 g2)) :=
  PW.w (pw_or p q) fun σ H Q ⟨μ, st, h, S, L, k⟩ => ⟨μ, st, h, S, L, KO.seq k fun μ1 h1 H1 a x gg S1 r1 k1 => by
    have e : a = x := r1
    subst e
    cases a with
    | false => exact ⟨μ1, st, h1, S1, L.grow gg.toGrw, k1⟩
    | true => exact KO.now (R := rB) S1 rfl k1⟩
end

/-! ### and, or, not as values (of tests of bools); a if t else b; a chain of two comparisons -/
def xAnd (f g : Ex) : Ex := fun st h => (f st h).bind fun v h1 => match v with
  | .bl true => g st h1
  | .bl false => .ok (.bl false) h1
  | _ => .bad
def xOr (f g : Ex) : Ex := fun st h => (f st h).bind fun v h1 => match v with
  | .bl true => .ok (.bl true) h1
  | .bl false => g st h1
  | _ => .bad
def xNot (f : Ex) : Ex := fun st h => (f st h).bind fun v h1 => match v with
  | .bl b => .ok (.bl (!b)) h1
  | _ => .bad
def xIf (t : Eb) (f g : Ex) : Ex := fun st h => (t st h).bind fun b h1 => if b = true then f st h1 else g st h1
def xChain (g g' : PV → PV → Hh → Rs PV) (f1 f2 f3 : Ex) : Ex := fun st h => (f1 st h).bind fun a h1 => (f2 st h1).bind fun b h2 => (g a b h2).bind fun z h3 => match z with
  | .bl true => (f3 st h3).bind fun c h4 => g' b c h4
  | .bl false => .ok (.bl false) h3
  | _ => .bad
section
variable {X : Cx} {cl : En} {W : WX} {e a b c : Expr} {f1 f2 f3 : Ex} {g1 g2 : Eb} {pos : Pos} {rest : List Expr}
theorem e_one {op : BoolOp} (p : PE X a (teOf X.K cl W f1)) : PE X (.BoolOp op [a] pos) (teOf X.K cl W f1) := pe_one p
theorem e_and (p : PE X a (teOf X.K cl W f1)) (q : PE X (.BoolOp .And (b :: rest) pos) (teOf X.K cl W f2)) : PE X (.BoolOp .And (a :: b :: rest) pos) (teOf X.K cl W (xAnd f1 f2)) :=
  PE.w (pe_and p q) fun σ H Q ⟨μ, st, h, S, L, k⟩ => ⟨μ, st, h, S, L, KO.seq k fun μ1 h1 H1 a x gg S1 r1 k1 => by
    cases r1 with
    | bl =>
      rename_i b
      cases b with
      | true => exact ⟨_, rfl, μ1, st, h1, S1, L.grow gg.toGrw, k1⟩
      | false => exact ⟨_, rfl, KO.now (R := rV X.K cl) S1 .bl k1⟩
    | _ => exact k1.elim⟩
theorem e_or (p : PE X a (teOf X.K cl W f1)) (q : PE X (.BoolOp .Or (b :: rest) pos) (teOf X.K cl W f2)) : PE X (.BoolOp .Or (a :: b :: rest) pos) (teOf X.K cl W (xOr f1 f2)) :=
  PE.w (pe_or p q) fun σ H Q ⟨μ, st, h, S, L, k⟩ => ⟨μ, st, h, S, L, KO.seq k fun μ1 h1 H1 a x gg S1 r1 k1 => by
    cases r1 with
    | bl =>
      rename_i b
      cases b with
      | true => exact ⟨_, rfl, KO.now (R := rV X.K cl) S1 .bl k1⟩
      | false => exact ⟨_, rfl, μ1, st, h1, S1, L.grow gg.toGrw, k1⟩
    | _ => exact k1.elim⟩
theorem e_not (p : PE X a (teOf X.K cl W f1)) : PE X (.UnaryOp .Not a pos) (teOf X.K cl W (xNot f1)) :=
  PE.w (pe_not p) fun σ H Q ⟨μ, st, h, S, L, k⟩ => ⟨μ, st, h, S, L, KO.seq k fun μ1 h1 H1 a x gg S1 r1 k1 => by
    cases r1 with
    | bl => exact ⟨_, rfl, KO.now (R := rV X.K cl) S1 .bl k1⟩
    | _ => exact k1.elim⟩
theorem e_if (t : PT X c (ttOf X.K cl W g1)) (p : PE X a (teOf X.K cl W f1)) (q : PE X b (teOf X.K cl W f2)) : PE X (.IfExp c a b pos) (teOf X.K cl W (xIf g1 f1 f2)) :=
  PE.w (pe_ifExp t p q) fun σ H Q ⟨μ, st, h, S, L, k⟩ => ⟨μ, st, h, S, L, KO.seq k fun μ1 h1 H1 a x gg S1 r1 k1 => by
    have e : a = x := r1
    subst e
    cases a with
    | true => exact ⟨μ1, st, h1, S1, L.grow gg.toGrw, k1⟩
    | false => exact ⟨μ1, st, h1, S1, L.grow gg.toGrw, k1⟩⟩
theorem e_chain {op op' : CmpOp} {g g' r r'} (ho : OpR X (compareOp op) r) (ho' : OpR X (compareOp op') r') (v : VOp X.K cl g r) (v' : VOp X.K cl g' r') (p : PE X a (teOf X.K cl W f1)) (q : PE X b (teOf X.K cl W f2)) (q' : PE X c (teOf X.K cl W f3))
    (hm : lastMarks [op, op'] [b, c] = false := by with_unfolding_all rfl) : PE X (.Compare a [op, op'] [b, c] pos) (teOf X.K cl W (xChain g g' f1 f2 f3)) :=
  PE.w (pe_chain ho ho' p q q' hm) fun σ H Q ⟨μ, st, h, S, L, k⟩ => ⟨μ, st, h, S, L, KO.seq k fun μ1 h1 H1 a x g1 S1 r1 k1 =>
    ⟨μ1, st, h1, S1, L.grow g1.toGrw, KO.seq k1 fun μ2 h2 H2 b y g2 S2 r2 k2 => v _ _ _ _ _ _ _ W σ _ S2 (VR.grow g2.toGrw r1) r2 (KO.seq k2 fun μ3 h3 H3 z zv g3 S3 r3 k3 => by
      cases r3 with
      | bl =>
        rename_i t
        cases t with
        | true =>
          refine ⟨_, rfl, μ3, st, h3, S3, ((L.grow g1.toGrw).grow g2.toGrw).grow g3.toGrw, KO.seq k3 fun μ4 h4 H4 w wv g4 S4 r4 k4 => ?_⟩
          exact v' _ _ _ _ _ _ _ W σ _ S4 (VR.grow (g3.trans g4).toGrw r2) r4 k4
        | false => exact ⟨_, rfl, KO.now (R := rV X.K cl) S3 .bl k3⟩
      | _ => exact k3.elim)⟩⟩
end
end TR

set_option Elab.async false
set_option linter.all false
set_option maxRecDepth 100000
set_option maxHeartbeats 4000000
namespace TR
open PySem PySem.Spec L2

/-! ### displays, slices -/
def xTup (fa : Ea) : Ex := fun st h => (fa st h).bind fun as h1 => if as.length ≤ sizeLine then .ok (.tup as) h1 else .bad
def xLst (fa : Ea) : Ex := fun st h => (fa st h).bind fun as h1 => if as.length ≤ sizeLine then .ok (.lst as) h1 else .bad
def xLstI (fa : Ea) : Ex := fun st h => (fa st h).bind fun as h1 => if as.length ≤ sizeLine then .ok (.ref h1.length) (h1 ++ [.lst as]) else .bad
def cutP (l : List PV) (lo hi : Option Int) : List PV := (l.drop (HT.sIx l.length 0 lo)).take (HT.sIx l.length l.length hi - HT.sIx l.length 0 lo)
abbrev Ep := Sl → Hh → Rs (Option Int)
abbrev toOf (K : PySem.W.Frag) (cl : En) (W : WX) (f : Ep) : TO := gOf K cl rB W f
def pNone : Ep := fun _ h => .ok none h
def pSome (f : Ex) : Ep := fun st h => (f st h).bind fun v h1 => match v with
  | .int i => .ok (some i) h1
  | _ => .bad
def xSl (g : PV → Option Int → Option Int → Hh → Rs PV) (f : Ex) (lo hi : Ep) : Ex := fun st h => (f st h).bind fun v h1 => (lo st h1).bind fun a h2 => (hi st h2).bind fun b h3 => g v a b h3
def VSl (K : PySem.W.Frag) (cl : En) (g : PV → Option Int → Option Int → Hh → Rs PV) (r : V → Option Int → Option Int → Hp → VK → Prop) : Prop :=
  ∀ μ h H v V lo hi (W : WX) σ Q, Sim K cl μ h H → VR K cl μ h H v V → KO K cl (rV K cl) W μ h H σ (g v lo hi h) Q → r V lo hi H Q
def gSlL (v : PV) (lo hi : Option Int) (h : Hh) : Rs PV := match asL v h with
  | some l => .ok (.lst (cutP l lo hi)) h
  | none => .bad
def gSlT (v : PV) (lo hi : Option Int) (h : Hh) : Rs PV := match v with
  | .tup l => .ok (.tup (cutP l lo hi)) h
  | _ => .bad
def gSlS (v : PV) (lo hi : Option Int) (h : Hh) : Rs PV := match v with
  | .str z => if z.length ≤ sizeLine then .ok (.str (cutS z lo hi)) h else .bad
  | _ => .bad
section
variable {K : PySem.W.Frag} {cl : En} {μ : Mp} {h : Hh} {H : Hp}
theorem vrs_cut {l xs} (r : VRs K cl μ h H l xs) (lo hi : Option Int) : VRs K cl μ h H (cutP l lo hi) (cutV xs lo hi) := by
  unfold cutP cutV
  rw [VRs.length r]
  exact VRs.take _ (VRs.drop _ r)
theorem v_slL : VSl K cl gSlL (rSlL K) := by
  intro μ h H v V lo hi W σ Q S r k
  unfold gSlL at k
  split at k
  · rename_i l e
    obtain ⟨p, xs, rfl, hp, r1⟩ := asL_ok S r e
    exact ⟨p, xs, rfl, hp, KO.lst S (vrs_cut r1 lo hi) k⟩
  · exact k.elim
theorem cut_all {l : List PV} {lo hi} (e : HT.sIx l.length 0 lo = 0 ∧ HT.sIx l.length l.length hi = l.length) : cutP l lo hi = l := by
  unfold cutP
  rw [e.1, e.2]
  simp
theorem v_slT : VSl K cl gSlT (rSlA K) := by
  intro μ h H v V lo hi W σ Q S r k
  unfold gSlT at k
  split at k
  · rename_i l
    obtain ⟨p, xs, rfl, hp, r1⟩ := tup_ok r
    refine ⟨p, xs, rfl, hp, fun e => ?_, fun e => KO.tup S (vrs_cut r1 lo hi) k⟩
    rw [cut_all (by rw [VRs.length r1]; exact e)] at k
    exact KO.now (R := rV K cl) S r k
  · exact k.elim
theorem v_slS : VSl K cl gSlS rSlS := by
  intro μ h H v V lo hi W σ Q S r k
  unfold gSlS at k
  split at k
  · cases vStr r
    split at k
    · rename_i hz
      exact ⟨_, rfl, hz, KO.now (R := rV K cl) S .str k⟩
    · exact k.elim
  · exact k.elim
end
section
variable {X : Cx} {cl : En} {W : WX} {e a b c : Expr} {es : List Expr} {f f1 f2 f3 : Ex} {fa : Ea} {pos p2 : Pos} {lo hi : Option Expr} {fl fh : Ep}
theorem e_tup {x1} (p : PA X es (taOf X.K cl W fa)) : PE X (.Tuple es x1 pos) (teOf X.K cl W (xTup fa)) :=
  PE.w (pe_tup p) fun σ H Q ⟨μ, st, h, S, L, k⟩ => ⟨μ, st, h, S, L, KO.seq k fun μ1 h1 H1 a x g1 S1 r1 k1 => by
    split at k1
    · rename_i hl
      exact ⟨by rw [← VRs.length r1]; exact hl, KO.tup S1 r1 k1⟩
    · exact k1.elim⟩
theorem e_lst (p : PA X es (taOf X.K cl W fa)) : PE X (.List es pos) (teOf X.K cl W (xLst fa)) :=
  PE.w (pe_lst p) fun σ H Q ⟨μ, st, h, S, L, k⟩ => ⟨μ, st, h, S, L, KO.seq k fun μ1 h1 H1 a x g1 S1 r1 k1 => by
    split at k1
    · rename_i hl
      exact ⟨by rw [← VRs.length r1]; exact hl, KO.lst S1 r1 k1⟩
    · exact k1.elim⟩
theorem e_lstI (p : PA X es (taOf X.K cl W fa)) : PE X (.List es pos) (teOf X.K cl W (xLstI fa)) :=
  PE.w (pe_lst p) fun σ H Q ⟨μ, st, h, S, L, k⟩ => ⟨μ, st, h, S, L, KO.seq k fun μ1 h1 H1 a x g1 S1 r1 k1 => by
    split at k1
    · rename_i hl
      exact ⟨by rw [← VRs.length r1]; exact hl, KO.lstI S1 r1 k1⟩
    · exact k1.elim⟩
theorem p_none : PO X none (toOf X.K cl W pNone) := ⟨fun pins s σ H Q I ⟨μ, st, h, S, L, k⟩ => po_none.run pins s σ H Q I (KO.now (R := rB) S rfl k)⟩
theorem p_some (p : PE X e (teOf X.K cl W f)) : PO X (some e) (toOf X.K cl W (pSome f)) := ⟨fun pins s σ H Q I ⟨μ, st, h, S, L, k⟩ => (po_some p).run pins s σ H Q I ⟨μ, st, h, S, L, KO.seq k fun μ1 h1 H1 a x g1 S1 r1 k1 => by
  cases r1 with
  | int => exact ⟨_, rfl, KO.now (R := rB) S1 rfl k1⟩
  | _ => exact k1.elim⟩⟩
theorem e_sl {g r} (hr : SlR X r) (v : VSl X.K cl g r) (p : PE X e (teOf X.K cl W f)) (q1 : PO X lo (toOf X.K cl W fl)) (q2 : PO X hi (toOf X.K cl W fh)) : PE X (.Subscript e (.Slice lo hi none p2) pos) (teOf X.K cl W (xSl g f fl fh)) :=
  PE.w (pe_slice hr p q1 q2) fun σ H Q ⟨μ, st, h, S, L, k⟩ => ⟨μ, st, h, S, L, KO.seq k fun μ1 h1 H1 a x g1 S1 r1 k1 =>
    ⟨μ1, st, h1, S1, L.grow g1.toGrw, KO.seq k1 fun μ2 h2 H2 b y g2 S2 r2 k2 => ⟨μ2, st, h2, S2, (L.grow g1.toGrw).grow g2.toGrw, KO.seq k2 fun μ3 h3 H3 c z g3 S3 r3 k3 => by
      have e2 : b = y := r2
      have e3 : c = z := r3
      subst e2 e3
      exact v _ _ _ _ _ _ _ W σ Q S3 (VR.grow (g2.trans g3).toGrw r1) k3⟩⟩⟩
end

/-! ### calls of built-ins and of their methods -/
section
variable {X : Cx} {cl : En} {W : WX} {e o : Expr} {es : List Expr} {f fo : Ex} {fa : Ea} {pos p apos cpos : Pos} {x name : Str} {id T : String}
theorem e_callB {g r} (hc : CallR X (.builtin id) r) (v : VCall X.K cl g r) (hg : Gl X x) (hm : X.mg x = none) (hv : bootBuiltins x = some (.builtin id)) (q : PA X (e :: es) (taOf X.K cl W fa)) (hn : x ≠ "__name__" := by decide) (hdb : (x == ("__debug__" : Str)) = false := by decide)
    (he : starEach (e :: es) X.env = (false, eval e X.env) :: starEach es X.env := by rfl) (hpl : (backTo pos (starEach es X.env)).any (·.1) = false := by rfl) : PE X (.Call (.Name x p) (e :: es) [] pos) (teOf X.K cl W (xCall g fa)) :=
  PE.w (pe_callB hc hg hm hv q hn hdb he hpl) fun σ H Q ⟨μ, st, h, S, L, k⟩ => ⟨μ, st, h, S, L, KO.seq k fun μ1 h1 H1 as AS g1 S1 r1 k1 => v _ _ _ _ _ W σ Q S1 r1 k1⟩
theorem e_callTy {g r} (hc : CallR X (.type T) r) (v : VCall X.K cl g r) (hg : Gl X x) (hm : X.mg x = none) (hv : bootBuiltins x = some (.type T)) (q : PA X (e :: es) (taOf X.K cl W fa)) (hn : x ≠ "__name__" := by decide) (hdb : (x == ("__debug__" : Str)) = false := by decide)
    (he : starEach (e :: es) X.env = (false, eval e X.env) :: starEach es X.env := by rfl) (hpl : (backTo pos (starEach es X.env)).any (·.1) = false := by rfl) : PE X (.Call (.Name x p) (e :: es) [] pos) (teOf X.K cl W (xCall g fa)) :=
  PE.w (pe_callTy hc hg hm hv q hn hdb he hpl) fun σ H Q ⟨μ, st, h, S, L, k⟩ => ⟨μ, st, h, S, L, KO.seq k fun μ1 h1 H1 as AS g1 S1 r1 k1 => v _ _ _ _ _ W σ Q S1 r1 k1⟩
/-- what a method's receiver must be -/
def VTy (K : PySem.W.Frag) (cl : En) (T : String) (t : PV → Hh → Bool) : Prop := ∀ μ h H v V, Sim K cl μ h H → VR K cl μ h H v V → t v h = true → tyV K T V H
def xBM (t : PV → Hh → Bool) (g : PV → List PV → Hh → Rs PV) (fo : Ex) (fa : Ea) : Ex := fun st h => (fo st h).bind fun a h1 => if t a h1 = true then (fa st h1).bind fun as h2 => g a as h2 else .bad
def tStr (v : PV) (_ : Hh) : Bool := match v with
  | .str _ => true
  | _ => false
def tList (v : PV) (h : Hh) : Bool := (asL v h).isSome
theorem ty_str {K : PySem.W.Frag} {cl : En} : VTy K cl "str" tStr := fun μ h H v V S r e => by
  unfold tStr at e
  split at e
  · cases vStr r; exact rfl
  · cases e
theorem ty_list {K : PySem.W.Frag} {cl : En} : VTy K cl "list" tList := fun μ h H v V S r e => by
  unfold tList at e
  obtain ⟨l, e⟩ := Option.isSome_iff_exists.mp e
  obtain ⟨p, xs, rfl, hp, _⟩ := asL_ok S r e
  exact .inl ⟨rfl, xs, hp⟩
theorem e_bm {g r t} (pa : PlainAttrs T) (slot : Slot T name id) (hty : typeOf (.builtin id) = pure (.type "method_descriptor")) (hm : MtR X id r) (vt : VTy X.K cl T t) (v : VMt X.K cl g r) (ho : PE X o (teOf X.K cl W fo)) (ha : PA X (e :: es) (taOf X.K cl W fa))
    (hbase : attributeBase o name X.env (eval o X.env) = eval o X.env := by rfl)
    (hfew : ((backTo cpos (starEach (e :: es) X.env)).all (fun x => !x.1) && (backToKw cpos (keywordEach [] X.env)).all (fun x => x.1.isSome)
      && decide ((e :: es).length + ([] : List Keyword).length + (if ([] : List Keyword).isEmpty then 0 else 1) < 30)) = true := by rfl)
    (hline : (apos.endLine == cpos.line) = true := by rfl) (hs : starEach (e :: es) X.env = (false, eval e X.env) :: starEach es X.env := by rfl) (hplain : (backTo cpos (starEach es X.env)).any (·.1) = false := by rfl) :
    PE X (.Call (.Attribute o name apos) (e :: es) [] cpos) (teOf X.K cl W (xBM t g fo fa)) :=
  PE.w (pe_bm pa slot hty hm ho ha hbase hfew hline hs hplain) fun σ H Q ⟨μ, st, h, S, L, k⟩ => ⟨μ, st, h, S, L, KO.seq k fun μ1 h1 H1 a A g1 S1 r1 k1 => by
    split at k1
    · rename_i ht
      exact ⟨vt _ _ _ _ _ S1 r1 ht, μ1, st, h1, S1, L.grow g1.toGrw, KO.seq k1 fun μ2 h2 H2 as AS g2 S2 r2 k2 => v _ _ _ _ _ _ _ W σ Q S2 (VR.grow g2.toGrw r1) r2 k2⟩
    · exact k1.elim⟩
end

/-! ### the built-ins -/
def gLen (as : List PV) (h : Hh) : Rs PV := match as with
  | [.str y] => if y.length ≤ sizeLine then .ok (.int y.length) h else .bad
  | [.tup l] => .ok (.int l.length) h
  | [v] => match asL v h with
    | some l => .ok (.int l.length) h
    | none => .bad
  | _ => .bad
def gMin2 (as : List PV) (h : Hh) : Rs PV := match as with
  | [.int i, .int j] => .ok (.int (if j < i then j else i)) h
  | _ => .bad
def gMax2 (as : List PV) (h : Hh) : Rs PV := match as with
  | [.int i, .int j] => .ok (.int (if j > i then j else i)) h
  | _ => .bad
def gAbs (as : List PV) (h : Hh) : Rs PV := match as with
  | [.int i] => .ok (.int (if i < 0 then -i else i)) h
  | _ => .bad
def gStrI (as : List PV) (h : Hh) : Rs PV := match as with
  | [.int i] => if i.natAbs.log2 < 1920 then .ok (.str (toString i)) h else .bad
  | _ => .bad
def gIntS (as : List PV) (h : Hh) : Rs PV := match as with
  | [.str a] => match PySem.intText? a with
    | some n => if a.length ≤ 640 then .ok (.int n) h else .bad
    | none => .bad
  | _ => .bad
def gTupO (as : List PV) (h : Hh) : Rs PV := match as with
  | [.tup l] => .ok (.tup l) h
  | [v] => match asL v h with
    | some l => .ok (.tup l) h
    | none => .bad
  | _ => .bad
def gLstO (as : List PV) (h : Hh) : Rs PV := match as with
  | [.tup l] => .ok (.lst l) h
  | [v] => match asL v h with
    | some l => .ok (.lst l) h
    | none => .bad
  | _ => .bad
def gLstOI (as : List PV) (h : Hh) : Rs PV := match as with
  | [.tup l] => .ok (.ref h.length) (h ++ [.lst l])
  | [v] => match asL v h with
    | some l => .ok (.ref h.length) (h ++ [.lst l])
    | none => .bad
  | _ => .bad
/-- a list of ints -/
def intsOf : List PV → Option (List Int)
  | [] => some []
  | .int i :: r => match intsOf r with
    | some ns => some (i :: ns)
    | none => none
  | _ => none
def strsOf : List PV → Option (List Str)
  | [] => some []
  | .str i :: r => match strsOf r with
    | some ns => some (i :: ns)
    | none => none
  | _ => none
def gSum (as : List PV) (h : Hh) : Rs PV := match as with
  | [v] => match (asL v h).bind intsOf with
    | some ns => .ok (.int ns.sum) h
    | none => .bad
  | _ => .bad
section
variable {K : PySem.W.Frag} {cl : En} {μ : Mp} {h : Hh} {H : Hp}
theorem vrs1 {v AS} (r : VRs K cl μ h H [v] AS) : ∃ V, AS = [V] ∧ VR K cl μ h H v V := by
  cases r with
  | cons a b => cases b; exact ⟨_, rfl, a⟩
theorem vrs2 {v u AS} (r : VRs K cl μ h H [v, u] AS) : ∃ V U, AS = [V, U] ∧ VR K cl μ h H v V ∧ VR K cl μ h H u U := by
  cases r with
  | cons a b =>
    obtain ⟨U, rfl, c⟩ := vrs1 b
    exact ⟨_, _, rfl, a, c⟩
theorem ints_ok : ∀ {l : List PV} {ns xs}, intsOf l = some ns → VRs K cl μ h H l xs → xs = ns.map V.int
  | [], ns, xs, e, r => by cases e; cases r; rfl
  | .int i :: t, ns, xs, e, r => by
    unfold intsOf at e
    cases e1 : intsOf t with
    | none => rw [e1] at e; cases e
    | some ms =>
      rw [e1] at e
      cases e
      cases r with
      | cons a b => rw [vInt a, ints_ok e1 b]; rfl
  | .non :: t, ns, xs, e, r => by cases e
  | .bl _ :: t, ns, xs, e, r => by cases e
  | .str _ :: t, ns, xs, e, r => by cases e
  | .tup _ :: t, ns, xs, e, r => by cases e
  | .lst _ :: t, ns, xs, e, r => by cases e
  | .scr _ :: t, ns, xs, e, r => by cases e
  | .dct _ :: t, ns, xs, e, r => by cases e
  | .dcn _ :: t, ns, xs, e, r => by cases e
  | .ref _ :: t, ns, xs, e, r => by cases e
  | .cls _ :: t, ns, xs, e, r => by cases e
  | .ty _ :: t, ns, xs, e, r => by cases e
theorem strs_ok : ∀ {l : List PV} {ns xs}, strsOf l = some ns → VRs K cl μ h H l xs → xs = ns.map V.str
  | [], ns, xs, e, r => by cases e; cases r; rfl
  | .str i :: t, ns, xs, e, r => by
    unfold strsOf at e
    cases e1 : strsOf t with
    | none => rw [e1] at e; cases e
    | some ms =>
      rw [e1] at e
      cases e
      cases r with
      | cons a b => rw [vStr a, strs_ok e1 b]; rfl
  | .non :: t, ns, xs, e, r => by cases e
  | .bl _ :: t, ns, xs, e, r => by cases e
  | .int _ :: t, ns, xs, e, r => by cases e
  | .tup _ :: t, ns, xs, e, r => by cases e
  | .lst _ :: t, ns, xs, e, r => by cases e
  | .scr _ :: t, ns, xs, e, r => by cases e
  | .dct _ :: t, ns, xs, e, r => by cases e
  | .dcn _ :: t, ns, xs, e, r => by cases e
  | .ref _ :: t, ns, xs, e, r => by cases e
  | .cls _ :: t, ns, xs, e, r => by cases e
  | .ty _ :: t, ns, xs, e, r => by cases e
theorem v_len : VCall K cl gLen (fun xs H Q => ∃ x n, xs = [x] ∧ LenV K x H n ∧ Q (.int n) H) := by
  intro μ h H as AS W σ Q S r k
  unfold gLen at k
  split at k
  · obtain ⟨V, rfl, q⟩ := vrs1 r
    rename_i y
    cases vStr q
    split at k
    · rename_i hl
      exact ⟨_, y.length, rfl, ⟨hl, rfl⟩, KO.now (R := rV K cl) S .int k⟩
    · exact k.elim
  · obtain ⟨V, rfl, q⟩ := vrs1 r
    obtain ⟨p, xs, rfl, hp, r1⟩ := tup_ok q
    refine ⟨_, xs.length, rfl, .inr ⟨xs, hp, rfl⟩, KO.now (R := rV K cl) S ?_ k⟩
    rw [VRs.length r1]; exact .int
  · obtain ⟨V, rfl, q⟩ := vrs1 r
    split at k
    · rename_i l e
      obtain ⟨p, xs, rfl, hp, r1⟩ := asL_ok S q e
      refine ⟨_, xs.length, rfl, .inl ⟨xs, hp, rfl⟩, KO.now (R := rV K cl) S ?_ k⟩
      rw [VRs.length r1]; exact .int
    · exact k.elim
  · exact k.elim
theorem v_min2 : VCall K cl gMin2 (fun xs H Q => ∃ i j, xs = [.int i, .int j] ∧ Q (.int (if j < i then j else i)) H) := by
  intro μ h H as AS W σ Q S r k
  unfold gMin2 at k
  split at k
  · obtain ⟨V, U, rfl, r1, r2⟩ := vrs2 r
    cases vInt r1
    cases vInt r2
    exact ⟨_, _, rfl, KO.now (R := rV K cl) S .int k⟩
  · exact k.elim
theorem v_max2 : VCall K cl gMax2 (fun xs H Q => ∃ i j, xs = [.int i, .int j] ∧ Q (.int (if j > i then j else i)) H) := by
  intro μ h H as AS W σ Q S r k
  unfold gMax2 at k
  split at k
  · obtain ⟨V, U, rfl, r1, r2⟩ := vrs2 r
    cases vInt r1
    cases vInt r2
    exact ⟨_, _, rfl, KO.now (R := rV K cl) S .int k⟩
  · exact k.elim
theorem v_abs : VCall K cl gAbs (fun xs H Q => ∃ i, xs = [.int i] ∧ Q (.int (if i < 0 then -i else i)) H) := by
  intro μ h H as AS W σ Q S r k
  unfold gAbs at k
  split at k
  · obtain ⟨V, rfl, q⟩ := vrs1 r
    cases vInt q
    exact ⟨_, rfl, KO.now (R := rV K cl) S .int k⟩
  · exact k.elim
theorem v_strI : VCall K cl gStrI (fun xs H Q => ∃ i, xs = [.int i] ∧ i.natAbs.log2 < 1920 ∧ Q (.str (toString i)) H) := by
  intro μ h H as AS W σ Q S r k
  unfold gStrI at k
  split at k
  · obtain ⟨V, rfl, q⟩ := vrs1 r
    cases vInt q
    split at k
    · rename_i hl
      exact ⟨_, rfl, hl, KO.now (R := rV K cl) S .str k⟩
    · exact k.elim
  · exact k.elim
theorem v_intS : VCall K cl gIntS (fun xs H Q => ∃ a n, xs = [.str a] ∧ PySem.intText? a = some n ∧ a.length ≤ 640 ∧ Q (.int n) H) := by
  intro μ h H as AS W σ Q S r k
  unfold gIntS at k
  split at k
  · obtain ⟨V, rfl, q⟩ := vrs1 r
    cases vStr q
    split at k
    · rename_i n e
      split at k
      · rename_i hl
        exact ⟨_, n, rfl, e, hl, KO.now (R := rV K cl) S .int k⟩
      · exact k.elim
    · exact k.elim
  · exact k.elim
theorem v_tupO : VCall K cl gTupO (fun xs H Q => ∃ p ys, xs = [.ref p] ∧ ((SqL K H p ys ∧ ∀ l, H l = none → Q (.ref l) (upd H l (.tup ys))) ∨ (SqT K H p ys ∧ Q (.ref p) H))) := by
  intro μ h H as AS W σ Q S r k
  unfold gTupO at k
  split at k
  · obtain ⟨V, rfl, q⟩ := vrs1 r
    obtain ⟨p, xs, rfl, hp, r1⟩ := tup_ok q
    exact ⟨p, xs, rfl, .inr ⟨hp, KO.now (R := rV K cl) S q k⟩⟩
  · obtain ⟨V, rfl, q⟩ := vrs1 r
    split at k
    · rename_i l e
      obtain ⟨p, xs, rfl, hp, r1⟩ := asL_ok S q e
      exact ⟨p, xs, rfl, .inl ⟨hp, KO.tup S r1 k⟩⟩
    · exact k.elim
  · exact k.elim
theorem v_lstO : VCall K cl gLstO (fun xs H Q => ∃ p ys, xs = [.ref p] ∧ (SqL K H p ys ∨ SqT K H p ys) ∧ ∀ l, H l = none → Q (.ref l) (upd H l (.lst ys))) := by
  intro μ h H as AS W σ Q S r k
  unfold gLstO at k
  split at k
  · obtain ⟨V, rfl, q⟩ := vrs1 r
    obtain ⟨p, xs, rfl, hp, r1⟩ := tup_ok q
    exact ⟨p, xs, rfl, .inr hp, KO.lst S r1 k⟩
  · obtain ⟨V, rfl, q⟩ := vrs1 r
    split at k
    · rename_i l e
      obtain ⟨p, xs, rfl, hp, r1⟩ := asL_ok S q e
      exact ⟨p, xs, rfl, .inl hp, KO.lst S r1 k⟩
    · exact k.elim
  · exact k.elim
theorem v_lstOI : VCall K cl gLstOI (fun xs H Q => ∃ p ys, xs = [.ref p] ∧ (SqL K H p ys ∨ SqT K H p ys) ∧ ∀ l, H l = none → Q (.ref l) (upd H l (.lst ys))) := by
  intro μ h H as AS W σ Q S r k
  unfold gLstOI at k
  split at k
  · obtain ⟨V, rfl, q⟩ := vrs1 r
    obtain ⟨p, xs, rfl, hp, r1⟩ := tup_ok q
    exact ⟨p, xs, rfl, .inr hp, KO.lstI S r1 k⟩
  · obtain ⟨V, rfl, q⟩ := vrs1 r
    split at k
    · rename_i l e
      obtain ⟨p, xs, rfl, hp, r1⟩ := asL_ok S q e
      exact ⟨p, xs, rfl, .inl hp, KO.lstI S r1 k⟩
    · exact k.elim
  · exact k.elim
theorem v_sum : VCall K cl gSum (rSum K) := by
  intro μ h H as AS W σ Q S r k
  unfold gSum at k
  split at k
  · obtain ⟨V, rfl, q⟩ := vrs1 r
    split at k
    · rename_i ns e
      obtain ⟨l, e1, e2⟩ := Option.bind_eq_some_iff.mp e
      obtain ⟨p, xs, rfl, hp, r1⟩ := asL_ok S q e1
      have := ints_ok e2 r1
      subst this
      exact ⟨p, ns, rfl, hp, KO.now (R := rV K cl) S .int k⟩
    · exact k.elim
  · exact k.elim
end
end TR

set_option Elab.async false
set_option linter.all false
set_option maxRecDepth 100000
set_option maxHeartbeats 4000000
namespace TR
open PySem PySem.Spec L2
open PyProof.Rows (envOfC)

/-! ### targets -/
inductive Tg where
  | nm (i : Nat) | tp (l : List Tg)
mutual
def asg : Tg → PV → Sl → Option Sl
  | .nm i, v, st => some (st.set i (some v))
  | .tp l, .tup vs, st => asgs l vs st
  | .tp _, _, _ => none
def asgs : List Tg → List PV → Sl → Option Sl
  | [], [], st => some st
  | t :: ts, v :: vs, st => match asg t v st with
    | some st1 => asgs ts vs st1
    | none => none
  | _, _, _ => none
end
mutual
def gT (K : PySem.W.Frag) : Tg → TG
  | .nm i => gName i
  | .tp l => gTup K l.length (gTs K l)
def gTs (K : PySem.W.Frag) : List Tg → TGs
  | [] => gNil
  | t :: ts => gCons (gT K t) (gTs K ts)
end
section
variable {K : PySem.W.Frag} {cl : En} {μ : Mp} {h : Hh} {H : Hp}
mutual
theorem asg_len : ∀ (t : Tg) (v : PV) (st st' : Sl) (vs : List PV), asg t v st = some st' → True := fun _ _ _ _ _ _ => trivial
theorem asgs_len : ∀ (l : List Tg) (vs : List PV) (st st' : Sl), asgs l vs st = some st' → l.length = vs.length
  | [], [], _, _, _ => rfl
  | t :: ts, v :: vs, st, st', e => by
    unfold asgs at e
    split at e
    · rename_i st1 _
      simp [asgs_len ts vs st1 st' e]
    · cases e
  | [], _ :: _, _, _, e => by simp [asgs] at e
  | _ :: _, [], _, _, e => by simp [asgs] at e
end
mutual
theorem asg_ok : ∀ (t : Tg) (v : PV) (st st' : Sl), asg t v st = some st' → ∀ (x : V) (σ : St) (Q : St → Hp → Prop), VR K cl μ h H v x → StR K cl μ h H st σ → (∀ σ', StR K cl μ h H st' σ' → Q σ' H) → gT K t x σ H Q
  | .nm i, v, st, st', e, x, σ, Q, r, L, q => by
    simp only [asg] at e
    cases e
    show Q (σ.set i (some x)) H
    exact q _ (L.set i r)
  | .tp l, .tup vs, st, st', e, x, σ, Q, r, L, q => by
    simp only [asg] at e
    obtain ⟨p, xs, rfl, hp, rs⟩ := tup_ok r
    refine ⟨p, xs, rfl, hp, ?_, asgs_ok l vs st st' e xs σ Q rs L q⟩
    rw [← VRs.length rs, asgs_len l vs st st' e]
  | .tp _, .non, _, _, e, _, _, _, _, _, _ => by simp [asg] at e
  | .tp _, .bl _, _, _, e, _, _, _, _, _, _ => by simp [asg] at e
  | .tp _, .int _, _, _, e, _, _, _, _, _, _ => by simp [asg] at e
  | .tp _, .str _, _, _, e, _, _, _, _, _, _ => by simp [asg] at e
  | .tp _, .lst _, _, _, e, _, _, _, _, _, _ => by simp [asg] at e
  | .tp _, .scr _, _, _, e, _, _, _, _, _, _ => by simp [asg] at e
  | .tp _, .dct _, _, _, e, _, _, _, _, _, _ => by simp [asg] at e
  | .tp _, .dcn _, _, _, e, _, _, _, _, _, _ => by simp [asg] at e
  | .tp _, .ref _, _, _, e, _, _, _, _, _, _ => by simp [asg] at e
  | .tp _, .cls _, _, _, e, _, _, _, _, _, _ => by simp [asg] at e
  | .tp _, .ty _, _, _, e, _, _, _, _, _, _ => by simp [asg] at e
theorem asgs_ok : ∀ (l : List Tg) (vs : List PV) (st st' : Sl), asgs l vs st = some st' → ∀ (xs : List V) (σ : St) (Q : St → Hp → Prop), VRs K cl μ h H vs xs → StR K cl μ h H st σ → (∀ σ', StR K cl μ h H st' σ' → Q σ' H) → gTs K l xs σ H Q
  | [], [], st, st', e, xs, σ, Q, r, L, q => by
    simp only [asgs] at e
    cases e
    cases r
    exact ⟨rfl, q σ L⟩
  | t :: ts, v :: vs, st, st', e, xs, σ, Q, r, L, q => by
    simp only [asgs] at e
    split at e
    · rename_i st1 e1
      cases r with
      | cons a b => exact ⟨_, _, rfl, asg_ok t v st st1 e1 _ σ _ a L fun σ1 L1 => asgs_ok ts vs st1 st' e _ σ1 Q b L1 q⟩
    · cases e
  | [], _ :: _, _, _, e, _, _, _, _, _, _ => by simp [asgs] at e
  | _ :: _, [], _, _, e, _, _, _, _, _, _ => by simp [asgs] at e
end
end

/-! ### statements -/
def sNext : Sx := fun st h => .nx st h
def sSeq (f g : Sx) : Sx := fun st h => match f st h with
  | .nx st1 h1 => g st1 h1
  | r => r
def sDrop (f : Ex) : Sx := fun st h => (f st h).toS st fun _ h1 => .nx st h1
def sSet (i : Nat) (f : Ex) : Sx := fun st h => (f st h).toS st fun v h1 => .nx (st.set i (some v)) h1
def sAsg (t : Tg) (f : Ex) : Sx := fun st h => (f st h).toS st fun v h1 => match asg t v st with
  | some st1 => .nx st1 h1
  | none => .bad
def sRet (f : Ex) : Sx := fun st h => (f st h).toS st fun v h1 => .ret v h1
def sRetN : Sx := fun _ h => .ret .non h
def sIf (c : Eb) (f g : Sx) : Sx := fun st h => (c st h).toS st fun b h1 => if b = true then f st h1 else g st h1
def sNever : Sx := fun _ _ => .bad
def sBrk : Sx := fun st h => .bk st h
def sCnt : Sx := fun st h => .ct st h
/-- x op= e -/
def sAug (i : Nat) (g : PV → PV → Hh → Rs PV) (f : Ex) : Sx := fun st h => match st[i]? with
  | some (some a) => (f st h).toS st fun b h1 => (g a b h1).toS st fun v h2 => .nx (st.set i (some v)) h2
  | _ => .bad
section
variable {X : Cx} {cl : En} {W : WX} {e c : Expr} {f : Ex} {b : Eb} {s1 s2 : Sx} {st : Stmt} {rest body orelse : List Stmt} {pos : Pos}
theorem s_nil : PSs X [] (tsOf X.K cl W sNext) := PSs.w pss_nil fun D σ H ⟨μ, st, h, S, L, k⟩ => k μ H σ (Grow.refl _ _ _) S L
theorem s_cons (p : PS X st (tsOf X.K cl W s1)) (q : PSs X rest (tsOf X.K cl W s2)) : PSs X (st :: rest) (tsOf X.K cl W (sSeq s1 s2)) :=
  PSs.w (pss_cons p q) fun D σ H ⟨μ, st, h, S, L, k⟩ => ⟨μ, st, h, S, L, by
    have k' : SO X.K cl W μ h H (match s1 st h with | .nx st1 h1 => s2 st1 h1 | r => r) D := k
    cases e : s1 st h with
    | nx st1 h1 =>
      rw [e] at k'
      exact fun μ1 H1 σ1 g S1 L1 => ⟨μ1, st1, h1, S1, L1, SO.grow g k'⟩
    | bk st1 h1 => rw [e] at k'; exact k'
    | ct st1 h1 => rw [e] at k'; exact k'
    | ret v h1 => rw [e] at k'; exact k'
    | exc c fs st1 h1 => rw [e] at k'; exact k'
    | bad => rw [e] at k'; exact k'⟩
theorem s_one (p : PS X st (tsOf X.K cl W s1)) : PSs X [st] (tsOf X.K cl W s1) := pss_one p
theorem s_drop (p : PE X e (teOf X.K cl W f)) (hs : swapsWith e none pos.line X.env = pure false := by rfl) : PS X (.Expr e pos) (tsOf X.K cl W (sDrop f)) :=
  PS.w (ps_expr p hs) fun D σ H ⟨μ, st, h, S, L, k⟩ => ⟨μ, st, h, S, L, SO.seq L k fun μ1 h1 H1 a x g S1 L1 r1 k1 => k1 μ1 H1 σ (Grow.refl _ _ _) S1 L1⟩
theorem s_set {i : Nat} {x : Str} {pos' : Pos} (hN : X.N.Nodup) (hi : X.N[i]? = some x) (hx : Loc X.env.scope x) (p : PE X e (teOf X.K cl W f)) (hs : swapsWith e (some (.Name x pos')) pos.line X.env = pure false := by rfl) (hf : X.fn x = true ∨ X.env.scope.names.lookup x = some .local := by first | exact .inl rfl | exact .inr rfl | assumption) :
    PS X (.Assign [.Name x pos'] e pos) (tsOf X.K cl W (sSet i f)) :=
  PS.w (ps_set hN hi hx p hs hf) fun D σ H ⟨μ, st, h, S, L, k⟩ => ⟨μ, st, h, S, L, SO.seq L k fun μ1 h1 H1 a x g S1 L1 r1 k1 => k1 μ1 H1 (σ.set i (some x)) (Grow.refl _ _ _) S1 (L1.set i r1)⟩
theorem s_asg {t : Tg} {tg : Expr} (p : PE X e (teOf X.K cl W f)) (hg : PG X tg (gT X.K t)) (hs : swapsWithSole [tg] e pos.line X.env = pure false := by rfl) (hw : swappedStores [tg] e X.env = pure none := by rfl)
    (h1 : (assignEach [tg] X.env).map (·.2) = [assign tg X.env] := by rfl) : PS X (.Assign [tg] e pos) (tsOf X.K cl W (sAsg t f)) :=
  PS.w (ps_asg p hg hs hw h1) fun D σ H ⟨μ, st, h, S, L, k⟩ => ⟨μ, st, h, S, L, SO.seq L k fun μ1 h1 H1 a x g S1 L1 r1 k1 => by
    split at k1
    · rename_i st1 e1
      exact asg_ok t a st st1 e1 x σ _ r1 L1 fun σ' L' => k1 μ1 H1 σ' (Grow.refl _ _ _) S1 L'
    · exact k1.elim⟩
theorem s_ret (p : PE X e (teOf X.K cl W f)) : PS X (.Return (some e) pos) (tsOf X.K cl W (sRet f)) :=
  PS.w (ps_ret p) fun D σ H ⟨μ, st, h, S, L, k⟩ => ⟨μ, st, h, S, L, SO.seq L k fun μ1 h1 H1 a x g S1 L1 r1 k1 => k1 μ1 H1 x (Grow.refl _ _ _) S1 r1⟩
theorem s_retN : PS X (.Return none pos) (tsOf X.K cl W sRetN) := PS.w ps_retN fun D σ H ⟨μ, st, h, S, L, k⟩ => k μ H .non (Grow.refl _ _ _) S .non
theorem s_if (q : PT X c (ttOf X.K cl W b)) (p1 : PSs X body (tsOf X.K cl W s1)) (p2 : PSs X orelse (tsOf X.K cl W s2)) : PS X (.If c body orelse pos) (tsOf X.K cl W (sIf b s1 s2)) :=
  PS.w (ps_if q p1 p2) fun D σ H ⟨μ, st, h, S, L, k⟩ => ⟨μ, st, h, S, L, SO.seq L k fun μ1 h1 H1 a x g S1 L1 r1 k1 => by
    have e : a = x := r1
    subst e
    cases a with
    | true => exact ⟨μ1, st, h1, S1, L1, k1⟩
    | false => exact ⟨μ1, st, h1, S1, L1, k1⟩⟩
theorem s_never : PS X st (tsOf X.K cl W sNever) := PS.w ps_never fun D σ H ⟨μ, st, h, S, L, k⟩ => k.elim
theorem s_pass : PS X (.Pass pos) (tsOf X.K cl W sNext) := PS.w ps_pass fun D σ H ⟨μ, st, h, S, L, k⟩ => k μ H σ (Grow.refl _ _ _) S L
theorem s_brk : PS X (.Break pos) (tsOf X.K cl W sBrk) := PS.w ps_break fun D σ H ⟨μ, st, h, S, L, k⟩ => k μ H σ (Grow.refl _ _ _) S L
theorem s_cnt : PS X (.Continue pos) (tsOf X.K cl W sCnt) := PS.w ps_continue fun D σ H ⟨μ, st, h, S, L, k⟩ => k μ H σ (Grow.refl _ _ _) S L
theorem s_aug {i : Nat} {x : Str} {op : Operator} {g r} {pos' : Pos} (hN : X.N.Nodup) (hi : X.N[i]? = some x) (hx : Loc X.env.scope x) (p : PE X e (teOf X.K cl W f)) (ho : OpR X (inplaceOp op) r) (v : VOp X.K cl g r)
    (hf : X.fn x = true ∨ X.env.scope.names.lookup x = some .local := by first | exact .inl rfl | exact .inr rfl | assumption) : PS X (.AugAssign (.Name x pos') op e pos) (tsOf X.K cl W (sAug i g f)) :=
  PS.w (ps_aug (ti := r) hN hi hx p (fun pins s σ H x y v u Q I rx ry q => ho pins s σ H x y v u Q I rx ry q) hf) fun D σ H ⟨μ, st, h, S, L, k⟩ => by
    unfold sAug at k
    cases e1 : st[i]? with
    | none => rw [e1] at k; exact k.elim
    | some o =>
      cases o with
      | none => rw [e1] at k; exact k.elim
      | some a =>
        rw [e1] at k
        obtain ⟨x, ex, rx⟩ := L.at_ i a e1
        refine ⟨x, ex, μ, st, h, S, L, SO.seq L k fun μ1 h1 H1 b y g1 S1 L1 r1 k1 => ?_⟩
        exact v _ _ _ _ _ _ _ W σ _ S1 (VR.grow g1.toGrw rx) r1 (SO.seq L1 k1 fun μ2 h2 H2 z zv g2 S2 L2 r2 k2 => k2 μ2 H2 _ (Grow.refl _ _ _) S2 (L2.set i r2))
end

/-! ### defs -/
def startS (n : Nat) (as : List PV) : Sl := as.map some ++ List.replicate (n - as.length) none
/-- a def of m parameters and n slots: its run -/
def runF (m n : Nat) (f : Sx) (as : List PV) (h : Hh) : Rs PV := if as.length = m then match f (startS n as) h with
    | .nx _ h1 => .ok .non h1
    | .ret v h1 => .ok v h1
    | .exc c fs _ h1 => .exc c fs h1
    | _ => .bad
  else .bad
def spOf (K : PySem.W.Frag) (cl : En) (m : Nat) (g : List PV → Hh → Rs PV) : Sp := fun vs H Q E => vs.length = m ∧ ∃ μ h as, Sim K cl μ h H ∧ VRs K cl μ h H as vs ∧ KO K cl (rV K cl) (fun cls d _ H => E cls d H) μ h H [] (g as h) Q
section
variable {P : Program} {w : World} {K : PySem.W.Frag} {cl : En} {mg : Str → Option Value} {base : Heap}
theorem str_start {μ h H} {n : Nat} {N : List Str} {as : List PV} {vs : List V} (hn : n = N.length) (r : VRs K cl μ h H as vs) : StR K cl μ h H (startS n as) (L2.start N vs) := by
  subst hn
  have hl := VRs.length r
  refine ⟨by simp [startS, L2.start, hl], fun i v e => ?_⟩
  unfold startS at e
  unfold L2.start
  by_cases hi : i < as.length
  · rw [List.getElem?_append_left (by simpa using hi)] at e
    rw [List.getElem?_append_left (by simpa [← hl] using hi)]
    rw [List.getElem?_map] at e
    cases e1 : as[i]? with
    | none => rw [e1] at e; cases e
    | some u =>
      rw [e1] at e
      have z : u = v := Option.some.inj (Option.some.inj e)
      subst z
      obtain ⟨x, h1, h2⟩ := VRs.get r e1
      exact ⟨x, by rw [List.getElem?_map, h1]; rfl, h2⟩
  · rw [List.getElem?_append_right (by simpa using hi)] at e
    rw [List.getElem?_replicate] at e
    split at e <;> cases e
/-- THE RULE for a def -/
theorem fnOk {x qual : Str} {params : Arguments} {body : List Stmt} {scope : Scope} {dvs : List V} {kws : List (Str × V)} {f : Addr} {fd : FuncData} {N ps : List Str} {k : Nat} {s : Sx} (F : FunD K x qual params body scope dvs kws f fd) (S : FnScope N ps scope) {m n : Nat} (hm : m = ps.length) (hn : n = N.length)
    (hbody : ∀ (cdv : Value) (A : Around) (outer : List Env) (s0 : Shared) (H : Hp) (E : XK), Room k (A.deeper (envOfC qual scope s0.heap.objs.size f cdv)) →
      PSs (cxOf (L2.CX P w) P w K mg base N qual scope f cdv A outer s0 H E) body (tsOf K cl (fun cls d _ H => E cls d H) s)) : FnOk P w K mg base (L2.CX P w) (k + 1) f fd ps (spOf K cl m (runF m n s)) := by
  refine F.ok S (fun vs H Q E h => by rw [← hm]; exact h.1) (fun cdv A outer s0 H vs Q E hr h => ⟨_, hbody cdv A outer s0 H E hr, ?_⟩)
  obtain ⟨hl, μ, h, as, Sm, r, q⟩ := h
  refine ⟨μ, startS n as, h, Sm, str_start hn r, ?_⟩
  have q' : KO K cl (rV K cl) (fun cls d _ H => E cls d H) μ h H [] (runF m n s as h) Q := q
  unfold runF at q'
  split at q'
  · cases e : s (startS n as) h with
    | nx st1 h1 => rw [e] at q'; exact fun μ1 H1 σ1 g S1 L1 => q' μ1 H1 .non g S1 .non
    | ret v h1 => rw [e] at q'; exact q'
    | exc c fs st1 h1 => rw [e] at q'; exact fun μ1 H1 σ1 cls d g S1 L1 x => q' μ1 H1 cls d g S1 x
    | bk st1 h1 => rw [e] at q'; exact q'.elim
    | ct st1 h1 => rw [e] at q'; exact q'.elim
    | bad => rw [e] at q'; exact q'.elim
  · exact q'.elim
end
section
variable {X : Cx} {cl : En} {W : WX} {e o : Expr} {es : List Expr} {fa : Ea} {fo : Ex} {pos p apos : Pos} {x m : Str} {f C : Addr} {fd : FuncData} {ps : List Str} {k n : Nat} {g : List PV → Hh → Rs PV}
theorem e_call (F : FnOk X.prog X.w X.K X.mg X.base (L2.CX X.prog X.w) k f fd ps (spOf X.K cl n g)) (hn : n = ps.length) (tk : Takes X W) (hr : Room k X.A) (hg : Gl X x) (hm : X.mg x = some (.ref f)) (hk : PySem.W.keepIn X.K (.ref f) = true) (hb : Binds X.K fd ps []) (ha : PA X (e :: es) (taOf X.K cl W fa))
    (hdb : (x == ("__debug__" : Str)) = false := by decide) (he : starEach (e :: es) X.env = (false, eval e X.env) :: starEach es X.env := by rfl) (hpl : (backTo pos (starEach es X.env)).any (·.1) = false := by rfl)
    (hc : ∀ as h, g as h ≠ .bad → as.length = n) : PE X (.Call (.Name x p) (e :: es) [] pos) (teOf X.K cl W (xCall g fa)) :=
  PE.w (pe_callS F hr hg hm hk hb (fun σ => passAt tk σ) ha hdb he hpl) fun σ H Q ⟨μ, st, h, S, L, q⟩ => ⟨μ, st, h, S, L, KO.seq q fun μ1 h1 H1 as AS g1 S1 r1 k1 => by
    refine ⟨?_, μ1, h1, as, S1, r1, ?_⟩
    · rw [← VRs.length r1]
      refine hc as h1 fun z => ?_
      rw [z] at k1
      exact k1
    · cases e : g as h1 with
      | ok v h2 => rw [e] at k1; exact k1
      | exc c fs h2 => rw [e] at k1; exact k1
      | bad => rw [e] at k1; exact k1⟩
theorem runF_len {m n : Nat} {s : Sx} (as : List PV) (h : Hh) (z : runF m n s as h ≠ .bad) : as.length = m := by
  unfold runF at z
  split at z
  · assumption
  · exact absurd rfl z
end
end TR

set_option Elab.async false
set_option linter.all false
set_option maxRecDepth 100000
set_option maxHeartbeats 4000000
namespace TR
open PySem PySem.Spec L2
open PyProof.Rows (envOfC)

/-! ### what is walked -/
def ItR (K : PySem.W.Frag) (cl : En) : RL (List PV) It := fun μ h H l J => ∀ μ' h' H', Grw μ h H μ' h' H' → Sim K cl μ' h' H' →
  (∀ i, i < l.length → J.go i H' ∧ ∀ x H'', J.yld i H' x H'' → Grow μ' h' H' μ' h' H'' ∧ Sim K cl μ' h' H'' ∧ ∃ v, l[i]? = some v ∧ VR K cl μ' h' H'' v x) ∧ J.stop l.length H'
theorem itR_ok {K cl} : (ItR K cl).Ok := ⟨fun g r μ' h' H' g' S => r μ' h' H' (g.toGrw.trans g') S⟩
abbrev tiOf (K : PySem.W.Frag) (cl : En) (W : WX) (f : Sl → Hh → Rs (List PV)) : TI := gOf K cl (ItR K cl) W f

/-! ### for, while -/
def forL (t : Tg) (fb : Sx) : List PV → Sl → Hh → SR
  | [], st, h => .nx st h
  | v :: r, st, h => match asg t v st with
    | none => .bad
    | some st1 => match fb st1 h with
      | .nx st2 h2 => forL t fb r st2 h2
      | .ct st2 h2 => forL t fb r st2 h2
      | .bk st2 h2 => .nx st2 h2
      | x => x
def sFor (fi : Sl → Hh → Rs (List PV)) (t : Tg) (fb : Sx) : Sx := fun st h => (fi st h).toS st fun l h1 => forL t fb l st h1
def whlL (c : Eb) (fb : Sx) : Nat → Sl → Hh → SR
  | 0, _, _ => .bad
  | n + 1, st, h => (c st h).toS st fun b h1 => if b = true then match fb st h1 with
      | .nx st2 h2 => whlL c fb n st2 h2
      | .ct st2 h2 => whlL c fb n st2 h2
      | .bk st2 h2 => .nx st2 h2
      | x => x
    else .nx st h1
section
variable {X : Cx} {cl : En} {W : WX} {c tg iter : Expr} {b : Eb} {fb : Sx} {fi : Sl → Hh → Rs (List PV)} {t : Tg} {body : List Stmt} {pos : Pos}
theorem s_for (hp : PassesOwn (model X.prog X.w) X.A X.env X.xe) (hc : X.calm = true) (hi : PI X tg iter (tiOf X.K cl W fi)) (hg : PG X tg (gT X.K t)) (hb : PSs X body (tsOf X.K cl W fb))
    (hs : ∀ x, foldedSetIterable iter X.env x = pure x := by intro _; rfl) : PS X (.For tg iter body [] pos) (tsOf X.K cl W (sFor fi t fb)) :=
  PS.w (ps_for hp hc hi hg hb hs) fun D σ H ⟨μ, st, h, S, L, k⟩ => ⟨μ, st, h, S, L, SO.seq L k fun μ1 h1 H1 l J g1 S1 L1 r1 k1 => by
    refine ⟨fun i m σ' H' => m = l.length - i ∧ i ≤ l.length ∧ ∃ μ' st' h', Grow μ1 h1 H1 μ' h' H' ∧ Sim X.K cl μ' h' H' ∧ StR X.K cl μ' h' H' st' σ' ∧ SO X.K cl W μ' h' H' (forL t fb (l.drop i) st' h') D,
      ⟨l.length, by simp, Nat.zero_le _, μ1, st, h1, Grow.refl _ _ _, S1, L1, by simpa using k1⟩, ?_⟩
    rintro i m σ' H' ⟨rfl, hi, μ', st', h', g', S', L', k'⟩
    obtain ⟨go, stop⟩ := r1 μ' h' H' g'.toGrw S'
    by_cases hlt : i < l.length
    · obtain ⟨g0, yl⟩ := go i hlt
      refine .inr ⟨g0, fun σ2 H2 => ∃ μ2 st2 h2, Grow μ1 h1 H1 μ2 h2 H2 ∧ Sim X.K cl μ2 h2 H2 ∧ StR X.K cl μ2 h2 H2 st2 σ2 ∧ SO X.K cl W μ2 h2 H2 (forL t fb (l.drop (i + 1)) st2 h2) D,
        fun σ2 H2 ⟨μ2, st2, h2, a1, a2, a3, a4⟩ => ⟨l.length - (i + 1), by omega, rfl, hlt, μ2, st2, h2, a1, a2, a3, a4⟩, fun x H'' y => ?_⟩
      obtain ⟨gy, Sy, v, ev, rv⟩ := yl x H'' y
      have ed : l.drop i = v :: l.drop (i + 1) := by
        rw [List.drop_eq_getElem_cons hlt]
        have := List.getElem?_eq_some_iff.mp ev
        rw [this.2]
      rw [ed] at k'
      simp only [forL] at k'
      cases e1 : asg t v st' with
      | none => rw [e1] at k'; exact k'.elim
      | some st1 =>
        rw [e1] at k'
        refine asg_ok t v st' st1 e1 x σ' _ rv (L'.grow gy.toGrw) fun σ2 L2 => ⟨μ', st1, h', Sy, L2, ?_⟩
        replace k' := SO.grow gy k'
        have gg := g'.trans gy
        cases e2 : fb st1 h' with
        | nx st2 h2 =>
          simp only [e2] at k'
          exact fun μ2 H2 σ3 g2 S2 L3 => ⟨μ2, st2, h2, gg.trans g2, S2, L3, SO.grow g2 k'⟩
        | ct st2 h2 =>
          simp only [e2] at k'
          exact fun μ2 H2 σ3 g2 S2 L3 => ⟨μ2, st2, h2, gg.trans g2, S2, L3, SO.grow g2 k'⟩
        | bk st2 h2 => simp only [e2] at k'; exact k'
        | ret v2 h2 => simp only [e2] at k'; exact k'
        | exc c2 fs2 st2 h2 => simp only [e2] at k'; exact k'
        | bad => simp only [e2] at k'; exact k'.elim
    · have ei : i = l.length := by omega
      subst ei
      rw [List.drop_length] at k'
      exact .inl ⟨stop, k' μ' H' σ' (Grow.refl _ _ _) S' L'⟩⟩
theorem s_whl (n : Nat) (hp : PassesOwn (model X.prog X.w) X.A X.env X.xe) (q : PT X c (ttOf X.K cl W b)) (hb : PSs X body (tsOf X.K cl W fb)) : PS X (.While c body [] pos) (tsOf X.K cl W (whlL b fb n)) :=
  PS.w (ps_while hp q hb) fun D σ H ⟨μ, st, h, S, L, k⟩ => by
    refine ⟨fun m σ' H' => ∃ μ' st' h', Sim X.K cl μ' h' H' ∧ StR X.K cl μ' h' H' st' σ' ∧ SO X.K cl W μ' h' H' (whlL b fb m st' h') D, ⟨n, μ, st, h, S, L, k⟩, ?_⟩
    rintro m σ' H' ⟨μ', st', h', S', L', k'⟩
    cases m with
    | zero => exact k'.elim
    | succ m =>
      simp only [whlL] at k'
      refine ⟨μ', st', h', S', L', SO.seq L' k' fun μ1 h1 H1 a x g1 S1 L1 r1 k1 => ?_⟩
      have e : a = x := r1
      subst e
      cases a with
      | false => exact k1 μ1 H1 σ' (Grow.refl _ _ _) S1 L1
      | true =>
        rw [if_pos rfl] at k1
        refine ⟨fun σ2 H2 => ∃ μ2 st2 h2, Sim X.K cl μ2 h2 H2 ∧ StR X.K cl μ2 h2 H2 st2 σ2 ∧ SO X.K cl W μ2 h2 H2 (whlL b fb m st2 h2) D, fun σ2 H2 hn => ⟨m, Nat.lt_succ_self m, hn⟩, μ1, st', h1, S1, L1, ?_⟩
        cases e2 : fb st' h1 with
        | nx st2 h2 => simp only [e2] at k1; exact fun μ2 H2 σ3 g2 S2 L3 => ⟨μ2, st2, h2, S2, L3, SO.grow g2 k1⟩
        | ct st2 h2 => simp only [e2] at k1; exact fun μ2 H2 σ3 g2 S2 L3 => ⟨μ2, st2, h2, S2, L3, SO.grow g2 k1⟩
        | bk st2 h2 => simp only [e2] at k1; exact k1
        | ret v2 h2 => simp only [e2] at k1; exact k1
        | exc c2 fs2 st2 h2 => simp only [e2] at k1; exact k1
        | bad => simp only [e2] at k1; exact k1.elim
end

/-! ### the iterators -/
/-- a list that stands, a tuple -/
def iLst (f : Ex) : Sl → Hh → Rs (List PV) := fun st h => (f st h).bind fun v h1 => match v with
  | .lst l => .ok l h1
  | .scr l => .ok l h1
  | _ => .bad
def iTupR (f : Ex) : Sl → Hh → Rs (List PV) := fun st h => (f st h).bind fun v h1 => match v with
  | .tup l => .ok l h1
  | _ => .bad
def intR (lo : Int) (n : Nat) : List PV := (List.range n).map fun i => .int (lo + (i : Nat))
def iRange1 (fa : Ea) : Sl → Hh → Rs (List PV) := fun st h => (fa st h).bind fun as h1 => match as with
  | [.int j] => if -(2 ^ 62) ≤ j ∧ j < 2 ^ 62 then .ok (intR 0 j.toNat) h1 else .bad
  | _ => .bad
def iRange2 (fa : Ea) : Sl → Hh → Rs (List PV) := fun st h => (fa st h).bind fun as h1 => match as with
  | [.int i, .int j] => if -(2 ^ 62) ≤ i ∧ i < 2 ^ 62 ∧ -(2 ^ 62) ≤ j ∧ j < 2 ^ 62 then .ok (intR i (j - i).toNat) h1 else .bad
  | _ => .bad
section
variable {K : PySem.W.Frag} {cl : En} {μ : Mp} {h : Hh} {H : Hp}
theorem it_seqL {p xs l} (hq : ∀ μ' h' H', Grw μ h H μ' h' H' → SqL K H' p xs) (r : VRs K cl μ h H l xs) : ItR K cl μ h H l (Itl K p) := by
  intro μ' h' H' g S
  have q := hq μ' h' H' g
  have r' := VRs.grow g r
  have hl := VRs.length r
  refine ⟨fun i hi => ⟨⟨xs, xs[i]'(by omega), q, by simp [show i < xs.length by omega]⟩, fun x H'' y => ?_⟩, ⟨xs, q, by omega⟩⟩
  obtain ⟨e, y⟩ := y
  subst e
  refine ⟨Grow.refl _ _ _, S, l[i], by simp [hi], ?_⟩
  obtain ⟨x', e1, r1⟩ := VRs.get r' (show l[i]? = some l[i] by simp [hi])
  have e2 := y xs q
  rw [e1] at e2
  cases e2
  exact r1
theorem it_seqT {p xs l} (hq : ∀ μ' h' H', Grw μ h H μ' h' H' → SqT K H' p xs) (r : VRs K cl μ h H l xs) : ItR K cl μ h H l (Itt K p) := by
  intro μ' h' H' g S
  have q := hq μ' h' H' g
  have r' := VRs.grow g r
  have hl := VRs.length r
  refine ⟨fun i hi => ⟨⟨xs, xs[i]'(by omega), q, by simp [show i < xs.length by omega]⟩, fun x H'' y => ?_⟩, ⟨xs, q, by omega⟩⟩
  obtain ⟨e, y⟩ := y
  subst e
  refine ⟨Grow.refl _ _ _, S, l[i], by simp [hi], ?_⟩
  obtain ⟨x', e1, r1⟩ := VRs.get r' (show l[i]? = some l[i] by simp [hi])
  have e2 := y xs q
  rw [e1] at e2
  cases e2
  exact r1
theorem it_rng {lo : Int} {n : Nat} : ItR K cl μ h H (intR lo n) (Itr lo n) := by
  intro μ' h' H' g S
  have hl : (intR lo n).length = n := by simp [intR]
  refine ⟨fun i hi => ⟨(by rw [hl] at hi; exact hi), fun x H'' y => ?_⟩, (by rw [hl]; exact Nat.le_refl n)⟩
  obtain ⟨e, y⟩ := y
  subst e y
  refine ⟨Grow.refl _ _ _, S, .int (lo + (i : Nat)), ?_, .int⟩
  rw [hl] at hi
  simp [intR, hi]
end
section
variable {X : Cx} {cl : En} {W : WX} {e a b tg : Expr} {f : Ex} {fa : Ea} {pos p : Pos}
theorem PI.w {tg iter : Expr} {t t' : TI} (q : PI X tg iter t) (i : ∀ σ H R, t' σ H R → t σ H R) : PI X tg iter t' := ⟨fun pins s σ H R I h => q.run pins s σ H R I (i σ H R h)⟩
theorem i_lst (q : PE X e (teOf X.K cl W f)) : PI X tg e (tiOf X.K cl W (iLst f)) :=
  PI.w (pi_list q) fun σ H R ⟨μ, st, h, S, L, k⟩ => ⟨μ, st, h, S, L, KO.seq k fun μ1 h1 H1 a x g1 S1 r1 k1 => by
    cases r1 with
    | lst n f r => exact ⟨_, rfl, ⟨_, SqL.of f⟩, KO.now (R := ItR X.K cl) S1 (it_seqL (fun μ' h' H' g => SqL.of (g.keep _ _ f n)) r) k1⟩
    | scr f r => exact ⟨_, rfl, ⟨_, .inl f.2⟩, KO.now (R := ItR X.K cl) S1 (it_seqL (fun μ' h' H' g => .inl (f.grow g).2) r) k1⟩
    | kscr f r => exact ⟨_, rfl, ⟨_, .inr f⟩, KO.now (R := ItR X.K cl) S1 (it_seqL (fun μ' h' H' g => .inr f) r) k1⟩
    | _ => exact k1.elim⟩
theorem i_tup (q : PE X e (teOf X.K cl W f)) : PI X tg e (tiOf X.K cl W (iTupR f)) :=
  PI.w (pi_tup q) fun σ H R ⟨μ, st, h, S, L, k⟩ => ⟨μ, st, h, S, L, KO.seq k fun μ1 h1 H1 a x g1 S1 r1 k1 => by
    cases r1 with
    | tup f r => exact ⟨_, rfl, ⟨_, .inl f.2⟩, KO.now (R := ItR X.K cl) S1 (it_seqT (fun μ' h' H' g => .inl (f.grow g).2) r) k1⟩
    | ktup f r => exact ⟨_, rfl, ⟨_, .inr f⟩, KO.now (R := ItR X.K cl) S1 (it_seqT (fun μ' h' H' g => .inr f) r) k1⟩
    | _ => exact k1.elim⟩
theorem i_range1 (hg : Gl X "range") (hm : X.mg "range" = none) (q : PA X [a] (taOf X.K cl W fa)) (hs : starEach [a] X.env = [(false, eval a X.env)] := by rfl) : PI X tg (.Call (.Name "range" p) [a] [] pos) (tiOf X.K cl W (iRange1 fa)) :=
  PI.w (pi_range1 hg hm q hs) fun σ H R ⟨μ, st, h, S, L, k⟩ => ⟨μ, st, h, S, L, KO.seq k fun μ1 h1 H1 as x g1 S1 r1 k1 => by
    split at k1
    · obtain ⟨V, rfl, r2⟩ := vrs1 r1
      cases vInt r2
      split at k1
      · rename_i hj
        exact ⟨_, rfl, hj.1, hj.2, KO.now (R := ItR X.K cl) S1 it_rng k1⟩
      · exact k1.elim
    · exact k1.elim⟩
theorem i_range2 (hg : Gl X "range") (hm : X.mg "range" = none) (q : PA X [a, b] (taOf X.K cl W fa)) (hs : starEach [a, b] X.env = [(false, eval a X.env), (false, eval b X.env)] := by rfl) (hs2 : starEach [b] X.env = [(false, eval b X.env)] := by rfl) : PI X tg (.Call (.Name "range" p) [a, b] [] pos) (tiOf X.K cl W (iRange2 fa)) :=
  PI.w (pi_range2 hg hm q hs hs2) fun σ H R ⟨μ, st, h, S, L, k⟩ => ⟨μ, st, h, S, L, KO.seq k fun μ1 h1 H1 as x g1 S1 r1 k1 => by
    split at k1
    · obtain ⟨V, U, rfl, r2, r3⟩ := vrs2 r1
      cases vInt r2
      cases vInt r3
      split at k1
      · rename_i hj
        exact ⟨_, _, rfl, hj, KO.now (R := ItR X.K cl) S1 it_rng k1⟩
      · exact k1.elim
    · exact k1.elim⟩
end
end TR

set_option Elab.async false
set_option linter.all false
set_option maxRecDepth 100000
set_option maxHeartbeats 4000000
namespace TR
open PySem PySem.Spec L2
open PyProof.Rows (envOfC)

/-! ### list comprehensions -/
def wipeS (st : Sl) : List Nat → Sl
  | [] => st
  | v :: vs => (wipeS st vs).set v none
def lcL (t : Tg) (ft : Eb) (fe : Ex) (st : Sl) : List PV → List PV → Hh → Rs (List PV)
  | [], acc, h => .ok acc h
  | v :: r, acc, h => match asg t v st with
    | none => .bad
    | some st1 => match ft st1 h with
      | .ok true h1 => match fe st1 h1 with
        | .ok y h2 => if acc.length < sizeLine then lcL t ft fe st r (acc ++ [y]) h2 else .bad
        | _ => .bad
      | .ok false h1 => lcL t ft fe st r acc h1
      | _ => .bad
def xLc (fi : Sl → Hh → Rs (List PV)) (t : Tg) (ft : Eb) (fe : Ex) (vs : List Nat) : Ex := fun st h => (fi st h).bind fun l h1 => (lcL t ft fe (wipeS st vs) l [] h1).bind fun acc h2 => .ok (.lst acc) h2
def bYes : Eb := fun _ h => .ok true h
mutual
def tgIn (vs : List Nat) : Tg → Bool
  | .nm i => vs.contains i
  | .tp l => tgsIn vs l
def tgsIn (vs : List Nat) : List Tg → Bool
  | [] => true
  | t :: ts => tgIn vs t && tgsIn vs ts
end
abbrev W0 : WX := fun _ _ _ _ => False
theorem wipe_set {σ : St} {i : Nat} {o : Option V} : ∀ {vs : List Nat}, wipe (σ.set i o) vs = if i ∈ vs then wipe σ vs else (wipe σ vs).set i o
  | [] => by simp [wipe]
  | v :: vs => by
    simp only [wipe]
    rw [wipe_set (vs := vs)]
    by_cases hv : i = v
    · subst hv
      simp only [List.mem_cons, true_or, if_true]
      split
      · rfl
      · rw [List.set_set]
    · by_cases hm : i ∈ vs
      · simp [hm]
      · simp only [hm, if_false, List.mem_cons, or_false, hv]
        rw [List.set_comm _ _ hv]
theorem wipe_in {σ : St} {i : Nat} {o : Option V} {vs : List Nat} (h : i ∈ vs) : wipe (σ.set i o) vs = wipe σ vs := by rw [wipe_set, if_pos h]
theorem wipe_wipe {σ : St} {vs : List Nat} : ∀ {us : List Nat}, (∀ i ∈ us, i ∈ vs) → wipe (wipe σ us) vs = wipe σ vs
  | [], _ => rfl
  | u :: us, h => by
    show wipe ((wipe σ us).set u none) vs = _
    rw [wipe_in (h u List.mem_cons_self)]
    exact wipe_wipe fun i hi => h i (List.mem_cons_of_mem _ hi)
section
variable {K : PySem.W.Frag} {cl : En} {μ : Mp} {h : Hh} {H : Hp}
theorem str_wipe {st : Sl} {σ : St} (L : StR K cl μ h H st σ) : ∀ vs : List Nat, StR K cl μ h H (wipeS st vs) (wipe σ vs)
  | [] => L
  | v :: vs => (str_wipe L vs).unset v none
mutual
theorem asg_okW : ∀ (t : Tg) (v : PV) (st st' : Sl), asg t v st = some st' → ∀ (vs : List Nat), tgIn vs t = true → ∀ (x : V) (σ : St) (Q : St → Hp → Prop), VR K cl μ h H v x → StR K cl μ h H st σ → (∀ σ', StR K cl μ h H st' σ' → wipe σ' vs = wipe σ vs → Q σ' H) → gT K t x σ H Q
  | .nm i, v, st, st', e, vs, tv, x, σ, Q, r, L, q => by
    simp only [asg] at e
    cases e
    show Q (σ.set i (some x)) H
    exact q _ (L.set i r) (wipe_in (by simpa [tgIn] using tv))
  | .tp l, .tup vs, st, st', e, ws, tv, x, σ, Q, r, L, q => by
    simp only [asg] at e
    obtain ⟨p, xs, rfl, hp, rs⟩ := tup_ok r
    refine ⟨p, xs, rfl, hp, ?_, asgs_okW l vs st st' e ws (by simpa [tgIn] using tv) xs σ Q rs L q⟩
    rw [← VRs.length rs, asgs_len l vs st st' e]
  | .tp _, .non, _, _, e, _, _, _, _, _, _, _, _ => by simp [asg] at e
  | .tp _, .bl _, _, _, e, _, _, _, _, _, _, _, _ => by simp [asg] at e
  | .tp _, .int _, _, _, e, _, _, _, _, _, _, _, _ => by simp [asg] at e
  | .tp _, .str _, _, _, e, _, _, _, _, _, _, _, _ => by simp [asg] at e
  | .tp _, .lst _, _, _, e, _, _, _, _, _, _, _, _ => by simp [asg] at e
  | .tp _, .scr _, _, _, e, _, _, _, _, _, _, _, _ => by simp [asg] at e
  | .tp _, .dct _, _, _, e, _, _, _, _, _, _, _, _ => by simp [asg] at e
  | .tp _, .dcn _, _, _, e, _, _, _, _, _, _, _, _ => by simp [asg] at e
  | .tp _, .ref _, _, _, e, _, _, _, _, _, _, _, _ => by simp [asg] at e
  | .tp _, .cls _, _, _, e, _, _, _, _, _, _, _, _ => by simp [asg] at e
  | .tp _, .ty _, _, _, e, _, _, _, _, _, _, _, _ => by simp [asg] at e
theorem asgs_okW : ∀ (l : List Tg) (vs : List PV) (st st' : Sl), asgs l vs st = some st' → ∀ (ws : List Nat), tgsIn ws l = true → ∀ (xs : List V) (σ : St) (Q : St → Hp → Prop), VRs K cl μ h H vs xs → StR K cl μ h H st σ → (∀ σ', StR K cl μ h H st' σ' → wipe σ' ws = wipe σ ws → Q σ' H) → gTs K l xs σ H Q
  | [], [], st, st', e, ws, tv, xs, σ, Q, r, L, q => by
    simp only [asgs] at e
    cases e
    cases r
    exact ⟨rfl, q σ L rfl⟩
  | t :: ts, v :: vs, st, st', e, ws, tv, xs, σ, Q, r, L, q => by
    simp only [asgs] at e
    simp only [tgsIn, Bool.and_eq_true] at tv
    split at e
    · rename_i st1 e1
      cases r with
      | cons a b => exact ⟨_, _, rfl, asg_okW t v st st1 e1 ws tv.1 _ σ _ a L fun σ1 L1 e3 => asgs_okW ts vs st1 st' e ws tv.2 _ σ1 Q b L1 fun σ2 L2 e4 => q σ2 L2 (e4.trans e3)⟩
    · cases e
  | [], _ :: _, _, _, e, _, _, _, _, _, _, _, _ => by simp [asgs] at e
  | _ :: _, [], _, _, e, _, _, _, _, _, _, _, _ => by simp [asgs] at e
end
/-- what is being made: D is reserved -/
def Mp.hold (μ : Mp) (D : Addr) : Mp := ⟨μ.ids, D :: μ.res⟩
theorem grw_hold {D : Addr} {o : HO} (hD : H D = none) : Grw μ h H (μ.hold D) h (upd H D o) :=
  ⟨fun _ _ e => e, fun a l => by
    rcases l with l | l
    · rcases List.mem_cons.mp l with e | l
      · exact .inr (e ▸ hD)
      · exact .inl (.inl l)
    · exact .inl (.inr l), fun q u e _ => by rw [upd_ne (ne_of_none e hD)]; exact e⟩
theorem Sim.grw {K cl μ h H μ' H'} (s : Sim K cl μ h H) (g : Grw μ h H μ' h H') (hi : μ'.ids = μ.ids) (e : ∀ a, a ∈ μ.ids → H' a = H a) (hr : ∀ a, a ∈ μ'.res → (∃ u, H' a = some u) ∧ a ∉ μ.ids) : Sim K cl μ' h H' := by
  refine ⟨by rw [hi]; exact s.len, by rw [hi]; exact s.nd, fun i a o h1 h2 => ?_, fun a ha => by rw [hi]; exact hr a ha⟩
  rw [hi] at h1
  exact (s.ob i a o h1 h2).grow g (e a (List.mem_of_getElem? h1))
theorem Sim.notId {K cl μ h H} {a : Addr} (s : Sim K cl μ h H) (e : H a = none) : a ∉ μ.ids := fun m => by
  obtain ⟨u, q⟩ := s.mem m
  rw [e] at q; cases q
theorem Sim.hold {D : Addr} {o : HO} (S : Sim K cl μ h H) (hD : H D = none) : Sim K cl (μ.hold D) h (upd H D o) :=
  S.grw (grw_hold hD) rfl (fun a ha => upd_ne fun z => S.notId hD (z ▸ ha)) fun a ha => by
    rcases List.mem_cons.mp ha with e | l
    · subst e; exact ⟨⟨_, upd_same⟩, S.notId hD⟩
    · obtain ⟨⟨u, q⟩, n⟩ := S.rs a l
      exact ⟨⟨u, by rw [upd_ne (ne_of_none q hD)]; exact q⟩, n⟩
end
section
variable {X : Cx} {cl : En} {W : WX} {elt tg iter : Expr} {ifs : List Expr} {scope : Scope} {own : List (Str × Nat)} {ft : Eb} {fe : Ex} {fi : Sl → Hh → Rs (List PV)} {t : Tg} {pos : Pos}
theorem t_yes : PTs X [] (ttOf X.K cl W bYes) := ⟨fun pins s σ H Q I ⟨μ, st, h, S, L, k⟩ => pts_nil.run pins s σ H Q I (KO.now (R := rB) S rfl k)⟩
theorem t_one {c : Expr} {b : Eb} (p : PT X c (ttOf X.K cl W b)) : PTs X [c] (ttOf X.K cl W b) := pts_one p
/-- the turns -/
theorem lc_turns {l : List PV} {J : It} {vs : List Nat} {μ1 : Mp} {h1 : Hh} {H1 : Hp} {σ : St} {st : Sl} {Q : VK} {D : Addr} (hv : tgIn vs t = true) (S1 : Sim X.K cl μ1 h1 H1) (L1 : StR X.K cl μ1 h1 H1 st σ) (r1 : ItR X.K cl μ1 h1 H1 l J) (hD : H1 D = none)
    (k1 : KO X.K cl (rV X.K cl) W μ1 h1 H1 σ ((lcL t ft fe (wipeS st vs) l [] h1).bind fun acc h2 => .ok (.lst acc) h2) Q) :
    ∃ W' : Nat → Nat → Hp → Prop, (∃ m, W' 0 m (upd H1 D (.lst []))) ∧ ∀ i m H, W' i m H →
      (J.stop i H ∧ Q (.ref D) H) ∨ (J.go i H ∧ ∃ Nx : Hp → Prop, (∀ H', Nx H' → ∃ m', m' < m ∧ W' (i + 1) m' H') ∧ ∀ x H', J.yld i H x H' → gT X.K t x (wipe σ vs) H' fun σ2 H2 => wipe σ2 vs = wipe σ vs ∧ ttOf X.K cl W0 ft σ2 H2 fun b H3 =>
        if b = true then teOf X.K cl W0 fe σ2 H3 fun y H4 => ∃ acc, H4 D = some (.lst acc) ∧ acc.length < sizeLine ∧ Nx (upd H4 D (.lst (acc ++ [y]))) else Nx H3) := by
  let R0 := lcL t ft fe (wipeS st vs) l [] h1
  let Inv' : Nat → Hp → Prop := fun i H => i ≤ l.length ∧ ∃ μ' h' acc accv, Grw μ1 h1 H1 μ' h' H ∧ μ'.res = D :: μ1.res ∧ (∀ a, a ∈ μ1.res → ∀ u, H1 a = some u → H a = some u) ∧ Sim X.K cl μ' h' H ∧ H D = some (.lst accv) ∧ VRs X.K cl μ' h' H acc accv ∧
    lcL t ft fe (wipeS st vs) (l.drop i) acc h' = lcL t ft fe (wipeS st vs) l [] h1
  -- D given back
  have back : ∀ {μ' : Mp} {h' : Hh} {H : Hp}, μ'.res = D :: μ1.res → Grw μ' h' H ⟨μ'.ids, μ1.res⟩ h' H := fun {μ' h' H} hr => ⟨fun _ _ e => e, fun a x => by
    rcases x with x | x
    · exact .inl (.inl (by rw [hr]; exact List.mem_cons_of_mem _ x))
    · exact .inl (.inr x), fun _ _ e _ => e⟩
  have backS : ∀ {μ' : Mp} {h' : Hh} {H : Hp}, μ'.res = D :: μ1.res → Sim X.K cl μ' h' H → Sim X.K cl ⟨μ'.ids, μ1.res⟩ h' H := fun {μ' h' H} hr S => S.grw (back hr) rfl (fun _ _ => rfl) fun a ha => S.rs a (by rw [hr]; exact List.mem_cons_of_mem _ ha)
  have toGrow : ∀ {μ' : Mp} {h' : Hh} {H : Hp}, Grw μ1 h1 H1 μ' h' H → μ'.res = D :: μ1.res → (∀ a, a ∈ μ1.res → ∀ u, H1 a = some u → H a = some u) → Grow μ1 h1 H1 ⟨μ'.ids, μ1.res⟩ h' H := fun {μ' h' H} g hr hk => ⟨g.trans (back hr), rfl, hk⟩
  have nbad : lcL t ft fe (wipeS st vs) l [] h1 ≠ .bad := fun z => by rw [z] at k1; exact k1
  refine ⟨fun i m H => m = l.length - i ∧ Inv' i H, ⟨l.length, by simp, Nat.zero_le _, μ1.hold D, h1, [], [], grw_hold hD, rfl, fun a ha u e => by rw [upd_ne (ne_of_none e hD)]; exact e, S1.hold hD, upd_same, .nil, by simp⟩, ?_⟩
  rintro i m H ⟨rfl, hi, μ', h', acc, accv, g', hr, hk, S', eD, ra, k'⟩
  obtain ⟨go, stop⟩ := r1 μ' h' H g' S'
  have inD : D ∈ μ'.res := by rw [hr]; exact List.mem_cons_self
  by_cases hlt : i < l.length
  · obtain ⟨g0, yl⟩ := go i hlt
    refine .inr ⟨g0, Inv' (i + 1), fun H' n => ⟨l.length - (i + 1), by omega, rfl, n⟩, fun x H'' y => ?_⟩
    obtain ⟨gy, Sy, v, ev, rv⟩ := yl x H'' y
    have ed : l.drop i = v :: l.drop (i + 1) := by
      rw [List.drop_eq_getElem_cons hlt]
      have := List.getElem?_eq_some_iff.mp ev
      rw [this.2]
    rw [ed] at k'
    simp only [lcL] at k'
    have Lw : StR X.K cl μ' h' H'' (wipeS st vs) (wipe σ vs) := str_wipe (L1.grow (g'.trans gy.toGrw)) vs
    cases e1 : asg t v (wipeS st vs) with
    | none => simp only [e1] at k'; exact absurd k'.symm nbad
    | some st1 =>
      simp only [e1] at k'
      refine asg_okW t v _ st1 e1 vs hv x _ _ rv Lw fun σ2 L2 ew => ⟨by rw [ew]; exact wipe_wipe fun _ h => h, μ', st1, h', Sy, L2, ?_⟩
      have eD2 := gy.rk D inD _ eD
      have hk2 : ∀ a, a ∈ μ1.res → ∀ u, H1 a = some u → H'' a = some u := fun a ha u e => gy.rk a (by rw [hr]; exact List.mem_cons_of_mem _ ha) u (hk a ha u e)
      have gA := g'.trans gy.toGrw
      cases e2 : ft st1 h' with
      | exc c fs h2 => simp only [e2] at k'; exact absurd k'.symm nbad
      | bad => simp only [e2] at k'; exact absurd k'.symm nbad
      | ok b h2 =>
        intro μ3 H3 b' g3 S3 rb
        have eb : b = b' := rb
        subst eb
        have hr3 : μ3.res = D :: μ1.res := g3.res.trans hr
        have eD3 := g3.rk D inD _ eD2
        have hk3 : ∀ a, a ∈ μ1.res → ∀ u, H1 a = some u → H3 a = some u := fun a ha u e => g3.rk a (by rw [hr]; exact List.mem_cons_of_mem _ ha) u (hk2 a ha u e)
        have gB := gA.trans g3.toGrw
        have ra3 := VRs.grow (gy.toGrw.trans g3.toGrw) ra
        cases b with
        | false =>
          simp only [e2] at k'
          rw [if_neg Bool.false_ne_true]
          exact ⟨hlt, μ3, h2, acc, accv, gB, hr3, hk3, S3, eD3, ra3, k'⟩
        | true =>
          rw [if_pos rfl]
          simp only [e2] at k'
          refine ⟨μ3, st1, h2, S3, L2.grow g3.toGrw, ?_⟩
          have inD3 : D ∈ μ3.res := by rw [hr3]; exact List.mem_cons_self
          cases e3 : fe st1 h2 with
          | exc c fs h3 => simp only [e3] at k'; exact absurd k'.symm nbad
          | bad => simp only [e3] at k'; exact absurd k'.symm nbad
          | ok y2 h4 =>
            intro μ4 H4 Y g4 S4 ry
            simp only [e3] at k'
            have hr4 : μ4.res = D :: μ1.res := g4.res.trans hr3
            have eD4 := g4.rk D inD3 _ eD3
            have inD4 : D ∈ μ4.res := by rw [hr4]; exact List.mem_cons_self
            have ra4 := VRs.grow g4.toGrw ra3
            by_cases hz : acc.length < sizeLine
            · rw [if_pos hz] at k'
              refine ⟨accv, eD4, by rw [← VRs.length ra]; exact hz, hlt, μ4, h4, acc ++ [y2], accv ++ [Y], ?_, hr4, fun a ha u e => ?_, ?_, upd_same, ?_, k'⟩
              · refine (gB.trans g4.toGrw).trans ⟨fun _ _ e => e, fun _ x => .inl x, fun p o e n => ?_⟩
                rw [upd_ne (show p ≠ D from fun z => n (by rw [z]; exact .inl inD4))]; exact e
              · rw [upd_ne fun z => by
                  subst z
                  obtain ⟨⟨u, q⟩, _⟩ := S1.rs a ha
                  rw [hD] at q; cases q]
                exact g4.rk a (by rw [hr3]; exact List.mem_cons_of_mem _ ha) u (hk3 a ha u e)
              · have nD : D ∉ μ4.ids := (S4.rs D inD4).2
                refine S4.grw ⟨fun _ _ e => e, fun _ x => .inl x, fun p o e n => ?_⟩ rfl (fun a ha => upd_ne fun z => nD (z ▸ ha)) fun a ha => ?_
                · rw [upd_ne (show p ≠ D from fun z => n (by rw [z]; exact .inl inD4))]; exact e
                · by_cases ha' : a = D
                  · subst ha'; exact ⟨⟨_, upd_same⟩, nD⟩
                  · rw [upd_ne ha']; exact S4.rs a ha
              · refine VRs.grow (h := h4) (H := H4) (μ := μ4) ⟨fun _ _ e => e, fun _ x => .inl x, fun p o e n => ?_⟩ (VRs.append ra4 (.cons ry .nil))
                rw [upd_ne (show p ≠ D from fun z => n (by rw [z]; exact .inl inD4))]; exact e
            · rw [if_neg hz] at k'
              exact absurd k'.symm nbad
  · have ei : i = l.length := by omega
    subst ei
    rw [List.drop_length] at k'
    refine .inl ⟨stop, ?_⟩
    have nD : ¬ Live ⟨μ'.ids, μ1.res⟩ h' D := fun z => by
      rcases z with z | ⟨j, o, e1, _⟩
      · obtain ⟨⟨u, q⟩, _⟩ := S1.rs D z
        rw [hD] at q; cases q
      · exact (S'.rs D inD).2 (List.mem_of_getElem? e1)
    rw [← k'] at k1
    exact k1 ⟨μ'.ids, μ1.res⟩ H (.ref D) (toGrow g' hr hk) (backS hr S') (.lst nD eD (VRs.grow (back hr) ra))
theorem e_lc (hc : X.calm = true) (hN : X.N.Nodup) (hi : PI X tg iter (tiOf X.K cl W fi)) (ok : BlkOk X.N X.env.scope scope own) (hv : tgIn (own.map (·.2)) t = true)
    (hg : ∀ (s : Shared) (H : Hp) (C : Addr) (cc : List (Str × Addr)) (fp : List Addr), PG (X.blk s H scope (compEnvC scope cc C X.env) fp) tg (gT X.K t)) (ht : ∀ (s : Shared) (H : Hp) (C : Addr) (cc : List (Str × Addr)) (fp : List Addr), PTs (X.blk s H scope (compEnvC scope cc C X.env) fp) ifs (ttOf X.K cl W0 ft))
    (he : ∀ (s : Shared) (H : Hp) (C : Addr) (cc : List (Str × Addr)) (fp : List Addr), PE (X.blk s H scope (compEnvC scope cc C X.env) fp) elt (teOf X.K cl W0 fe)) (hs : ∀ x, foldedSetIterable iter X.env x = pure x := by intro _; rfl) :
    PE X (.ListComp elt [⟨tg, iter, ifs, 0⟩] scope pos) (teOf X.K cl W (xLc fi t ft fe (own.map (·.2)))) :=
  PE.w (pe_lc hc hN hi ok hg ht he hs) fun σ H Q ⟨μ, st, h, S, L, k⟩ => ⟨μ, st, h, S, L, KO.seq k fun μ1 h1 H1 l J g1 S1 r1 k1 D hD => lc_turns hv S1 (L.grow g1.toGrw) r1 hD k1⟩
end
end TR

set_option Elab.async false
set_option linter.all false
set_option maxRecDepth 100000
set_option maxHeartbeats 4000000
namespace TR
open PySem PySem.Spec L2
open PyProof.Rows (envOfC)

/-! ### attributes -/
def putP (f : Str) (v : PV) : List (Str × PV) → List (Str × PV)
  | [] => [(f, v)]
  | (g, x) :: r => if g = f then (g, v) :: r else (g, x) :: putP f v r
/-- an instance of the class c at an id -/
def insAt (c : Nat) (v : PV) (h : Hh) : Option (Nat × List (Str × PV)) := match v with
  | .ref i => match h[i]? with
    | some (.ins c' fs) => if c' = c then some (i, fs) else none
    | _ => none
  | _ => none
def xFld (c : Nat) (f : Str) (fo : Ex) : Ex := fun st h => (fo st h).bind fun v h1 => match insAt c v h1 with
  | some (_, fs) => match fs.lookup f with
    | some u => .ok u h1
    | none => .bad
  | none => .bad
def sFldS (c : Nat) (f : Str) (fo fv : Ex) : Sx := fun st h => (fv st h).toS st fun v h1 => (fo st h1).toS st fun o h2 => match insAt c o h2 with
  | some (i, fs) => if fs.length < 1000 then .nx st (h2.set i (.ins c (putP f v fs))) else .bad
  | none => .bad
section
variable {K : PySem.W.Frag} {cl : En} {μ : Mp} {h : Hh} {H : Hp}
theorem ins_ok {c v x i fs} (S : Sim K cl μ h H) (r : VR K cl μ h H v x) (e : insAt c v h = some (i, fs)) : ∃ a dx ys, v = .ref i ∧ x = .ref a ∧ μ.ids[i]? = some a ∧ h[i]? = some (.ins c fs) ∧ H a = some (.ins (cl.ca c) dx ys) ∧ fs.map (·.1) = ys.map (·.1) ∧ VRs K cl μ h H (fs.map (·.2)) (ys.map (·.2)) := by
  unfold insAt at e
  split at e
  · rename_i j
    split at e
    · rename_i c' fs' e1
      split at e
      · rename_i hc
        subst hc
        cases e
        cases r with
        | ref q =>
          cases S.at q e1 with
          | ins a b d => exact ⟨_, _, _, rfl, rfl, q, e1, a, b, d⟩
      · cases e
    · cases e
  · cases e
theorem lookup_ok : ∀ {fs : List (Str × PV)} {ys : List (Str × V)} {f : Str}, fs.map (·.1) = ys.map (·.1) → VRs K cl μ h H (fs.map (·.2)) (ys.map (·.2)) → match fs.lookup f with
    | some u => ∃ x, ys.lookup f = some x ∧ VR K cl μ h H u x
    | none => ys.lookup f = none
  | [], [], f, _, _ => rfl
  | (g, u) :: fs, (g', x) :: ys, f, e, r => by
    simp only [List.map_cons, List.cons.injEq] at e
    obtain ⟨e1, e2⟩ := e
    subst e1
    simp only [List.map_cons] at r
    cases r with
    | cons a b =>
      by_cases hf : f = g
      · subst hf
        simp only [List.lookup, beq_self_eq_true]
        exact ⟨x, rfl, a⟩
      · have hb : (f == g) = false := beq_eq_false_iff_ne.mpr hf
        simp only [List.lookup, hb]
        exact lookup_ok e2 b
  | [], _ :: _, _, e, _ => by simp at e
  | _ :: _, [], _, e, _ => by simp at e
theorem put_ok {f : Str} {u : PV} {x : V} (ru : VR K cl μ h H u x) : ∀ {fs : List (Str × PV)} {ys : List (Str × V)}, fs.map (·.1) = ys.map (·.1) → VRs K cl μ h H (fs.map (·.2)) (ys.map (·.2)) → (putP f u fs).map (·.1) = (putF f x ys).map (·.1) ∧ VRs K cl μ h H ((putP f u fs).map (·.2)) ((putF f x ys).map (·.2))
  | [], [], _, _ => ⟨rfl, .cons ru .nil⟩
  | (g, w) :: fs, (g', y) :: ys, e, r => by
    simp only [List.map_cons, List.cons.injEq] at e
    obtain ⟨e1, e2⟩ := e
    subst e1
    simp only [List.map_cons] at r
    cases r with
    | cons a b =>
      unfold putP putF
      by_cases hg : g = f
      · rw [if_pos hg, if_pos hg]
        exact ⟨by simp [e2], .cons ru b⟩
      · rw [if_neg hg, if_neg hg]
        obtain ⟨i1, i2⟩ := put_ok ru e2 b
        exact ⟨by simp [i1], .cons a i2⟩
  | [], _ :: _, e, _ => by simp at e
  | _ :: _, [], e, _ => by simp at e
end
section
variable {X : Cx} {cl : En} {W : WX} {e o value : Expr} {es : List Expr} {fa : Ea} {fo fv : Ex} {pos pos' p apos : Pos} {x m f : Str} {fA C : Addr} {fd : FuncData} {ps : List Str} {k n c : Nat} {g : List PV → Hh → Rs PV}
theorem e_fld (hcl : Cls X.K (cl.ca c)) (hn : NoAttr X.K (cl.ca c) f) (q : PE X e (teOf X.K cl W fo)) (hb : attributeBase e f X.env (eval e X.env) = eval e X.env := by rfl) : PE X (.Attribute e f pos) (teOf X.K cl W (xFld c f fo)) :=
  PE.w (pe_fld q hb) fun σ H Q ⟨μ, st, h, S, L, k⟩ => ⟨μ, st, h, S, L, KO.seq k fun μ1 h1 H1 a x g1 S1 r1 k1 => by
    split at k1
    · rename_i i fs e1
      obtain ⟨a, dx, ys, rfl, rfl, hi, ho, ha, en, rs⟩ := ins_ok S1 r1 e1
      have lk := lookup_ok (f := f) en rs
      cases e2 : fs.lookup f with
      | none => rw [e2] at k1; exact k1.elim
      | some u =>
        rw [e2] at lk k1
        obtain ⟨y, ey, ry⟩ := lk
        exact ⟨a, cl.ca c, dx, ys, y, rfl, ha, hcl, hn, ey, KO.now (R := rV X.K cl) S1 ry k1⟩
    · exact k1.elim⟩
theorem s_fld (hcl : Cls X.K (cl.ca c)) (hn : NoAttr X.K (cl.ca c) f) (q : PE X o (teOf X.K cl W fo)) (qv : PE X value (teOf X.K cl W fv)) (hs : swapsWith value (some (.Attribute o f pos')) pos.line X.env = pure false := by rfl) : PS X (.Assign [.Attribute o f pos'] value pos) (tsOf X.K cl W (sFldS c f fo fv)) :=
  PS.w (ps_fld q qv hs) fun D σ H ⟨μ, st, h, S, L, k⟩ => ⟨μ, st, h, S, L, SO.seq L k fun μ1 h1 H1 v x g1 S1 L1 r1 k1 => ⟨μ1, st, h1, S1, L1, SO.seq L1 k1 fun μ2 h2 H2 ov y g2 S2 L2 r2 k2 => by
    split at k2
    · rename_i i fs e1
      obtain ⟨a, dx, ys, rfl, rfl, hi, ho, ha, en, rs⟩ := ins_ok S2 r2 e1
      split at k2
      · rename_i hl
        have hk : ∀ q, q ≠ a → upd H2 a (.ins (cl.ca c) dx (putF f x ys)) q = H2 q := fun q hq => upd_ne hq
        have gw := grow_set (ob := .ins c (putP f v fs)) hi ho (by intro z; cases z) hk (S2.nres hi)
        obtain ⟨p1, p2⟩ := put_ok (f := f) (VR.grow g2.toGrw r1) en rs
        have hyl : ys.length = fs.length := by
          have := congrArg List.length en
          simpa using this.symm
        refine ⟨a, cl.ca c, dx, ys, rfl, ha, hcl, hn, by rw [hyl]; exact hl, k2 μ2 _ σ gw (S2.set hi ho (by intro z; cases z) hk (.ins upd_same p1 (VRs.grow gw.toGrw p2))) (L2.grow gw.toGrw)⟩
      · exact k2.elim
    · exact k2.elim⟩⟩

/-! ### methods, new objects -/
def tMethS (C : Addr) (m : Str) (sp : Sp) (E : St → XK) (ta : TE) (t : TA) : TE := fun σ H Q => ta σ H fun x H1 => ∃ a dx fs, x = .ref a ∧ H1 a = some (.ins C dx fs) ∧ fs.lookup m = none ∧
  t σ H1 fun vs H2 => sp (x :: vs) H2 Q (E σ)
def xMeth (c : Nat) (m : Str) (g : List PV → Hh → Rs PV) (fo : Ex) (fa : Ea) : Ex := fun st h => (fo st h).bind fun o h1 => match insAt c o h1 with
  | some (_, fs) => if (fs.lookup m).isNone = true then (fa st h1).bind fun as h2 => g (o :: as) h2 else .bad
  | none => .bad
theorem pe_methX {CX : CXT} {sp : Sp} {E : St → XK} {ta : TE} {t : TA} {pl : Sem Bool} (he : PE X o ta) (c : Cls X.K C) (hm : Meth X.K C m fA) (F : FnOk X.prog X.w X.K X.mg X.base CX k fA fd ps sp) (hr : Room k X.A) (hb : Binds X.K fd ps []) (hx : ∀ σ, PassesAt CX X σ (E σ)) (ha : PA X (e :: es) t)
    (hst : starEach (e :: es) X.env = (false, eval e X.env) :: starEach es X.env := by rfl) (hpl : (backTo pos (starEach es X.env)).any (·.1) = false := by rfl)
    (ht : eval (.Call (.Attribute o m apos) (e :: es) [] pos) X.env = (do
      let ov ← eval o X.env
      standAt apos.atName
      let (f, first) ← holding [ov] (getMethod ov m pl)
      callWith pos f first (backTo pos (starEach (e :: es) X.env)) (backToKw pos (keywordEach [] X.env))) := by rfl) :
    PE X (.Call (.Attribute o m apos) (e :: es) [] pos) (tMethS C m sp E ta t) := by
  refine ⟨fun pins s σ H Q I h => ?_⟩
  refine PySem.W.methodCall_KW (pl := pl) (thn (he.run pins s σ H _ I h) fun u s1 ⟨x, H1, I1, rx, a, dx, fs, ex, ea, l, q⟩ => ?_) ht
  subst ex
  obtain rfl : u = Value.ref a := rx
  refine getmeth_ok I1 ea c hm l ?_
  refine PySem.W.callWith_K (first := [.ref a]) (h₀ := X.base) I.ok.mod.kin hm.kp (thn (ha.run pos pins s1 σ H1 _ I1 q) fun us s2 ⟨vs, H2, I2, r, q2⟩ => ⟨I2.kIn, ?_⟩) hst hpl
  exact run_fnS (us := .ref a :: us) (vs := .ref a :: vs) F hr hb (hx σ) I2 (.cons rfl r) q2
theorem pe_methX0 {CX : CXT} {sp : Sp} {E : St → XK} {ta : TE} {pl : Sem Bool} (he : PE X o ta) (c : Cls X.K C) (hm : Meth X.K C m fA) (F : FnOk X.prog X.w X.K X.mg X.base CX k fA fd ps sp) (hr : Room k X.A) (hb : Binds X.K fd ps []) (hx : ∀ σ, PassesAt CX X σ (E σ))
    (ht : eval (.Call (.Attribute o m apos) [] [] pos) X.env = (do
      let ov ← eval o X.env
      standAt apos.atName
      let (f, first) ← holding [ov] (getMethod ov m pl)
      callWith pos f first (backTo pos (starEach [] X.env)) (backToKw pos (keywordEach [] X.env))) := by rfl) :
    PE X (.Call (.Attribute o m apos) [] [] pos) (tMethS C m sp E ta tNil) := by
  refine ⟨fun pins s σ H Q I h => ?_⟩
  refine PySem.W.methodCall_KW (pl := pl) (thn (he.run pins s σ H _ I h) fun u s1 ⟨x, H1, I1, rx, a, dx, fs, ex, ea, l, q⟩ => ?_) ht
  subst ex
  obtain rfl : u = Value.ref a := rx
  refine getmeth_ok I1 ea c hm l ?_
  exact PySem.W.callWith_K0 (first := [.ref a]) I1.kIn hm.kp (run_fnS (us := [.ref a]) (vs := [.ref a]) F hr hb (hx σ) I1 (.cons rfl .nil) q)
theorem spOf_of {K : PySem.W.Frag} {μ : Mp} {h : Hh} {H : Hp} {as : List PV} {AS : List V} {σ : St} {Q : VK} (hc : ∀ as h, g as h ≠ .bad → as.length = n) (S : Sim K cl μ h H) (r : VRs K cl μ h H as AS) (k : KO K cl (rV K cl) W μ h H σ (g as h) Q) : spOf K cl n g AS H Q (WE W σ) := by
  refine ⟨?_, μ, h, as, S, r, ?_⟩
  · rw [← VRs.length r]
    refine hc as h fun z => ?_
    rw [z] at k
    exact k
  · cases e : g as h with
    | ok v h2 => rw [e] at k; exact k
    | exc c fs h2 => rw [e] at k; exact k
    | bad => rw [e] at k; exact k
theorem e_meth {pl : Sem Bool} (hcl : Cls X.K (cl.ca c)) (hm : Meth X.K (cl.ca c) m fA) (F : FnOk X.prog X.w X.K X.mg X.base (L2.CX X.prog X.w) k fA fd ps (spOf X.K cl n g)) (tk : Takes X W) (hr : Room k X.A) (hb : Binds X.K fd ps []) (hc : ∀ as h, g as h ≠ .bad → as.length = n)
    (qo : PE X o (teOf X.K cl W fo)) (qa : PA X (e :: es) (taOf X.K cl W fa))
    (hst : starEach (e :: es) X.env = (false, eval e X.env) :: starEach es X.env := by rfl) (hpl : (backTo pos (starEach es X.env)).any (·.1) = false := by rfl)
    (ht : eval (.Call (.Attribute o m apos) (e :: es) [] pos) X.env = (do
      let ov ← eval o X.env
      standAt apos.atName
      let (f, first) ← holding [ov] (getMethod ov m pl)
      callWith pos f first (backTo pos (starEach (e :: es) X.env)) (backToKw pos (keywordEach [] X.env))) := by rfl) :
    PE X (.Call (.Attribute o m apos) (e :: es) [] pos) (teOf X.K cl W (xMeth c m g fo fa)) :=
  PE.w (pe_methX qo hcl hm F hr hb (fun σ => passAt tk σ) qa hst hpl ht) fun σ H Q ⟨μ, st, h, S, L, k⟩ => ⟨μ, st, h, S, L, KO.seq k fun μ1 h1 H1 a x g1 S1 r1 k1 => by
    split at k1
    · rename_i i fs e1
      split at k1
      · rename_i hl
        obtain ⟨a, dx, ys, rfl, rfl, hi, ho, ha, en, rs⟩ := ins_ok S1 r1 e1
        have lk := lookup_ok (f := m) en rs
        rw [Option.isNone_iff_eq_none.mp hl] at lk
        exact ⟨a, dx, ys, rfl, ha, lk, μ1, st, h1, S1, L.grow g1.toGrw, KO.seq k1 fun μ2 h2 H2 as AS g2 S2 r2 k2 => spOf_of hc S2 (.cons (VR.grow g2.toGrw r1) r2) k2⟩
      · exact k1.elim
    · exact k1.elim⟩
theorem e_meth0 {pl : Sem Bool} (hcl : Cls X.K (cl.ca c)) (hm : Meth X.K (cl.ca c) m fA) (F : FnOk X.prog X.w X.K X.mg X.base (L2.CX X.prog X.w) k fA fd ps (spOf X.K cl n g)) (tk : Takes X W) (hr : Room k X.A) (hb : Binds X.K fd ps []) (hc : ∀ as h, g as h ≠ .bad → as.length = n)
    (qo : PE X o (teOf X.K cl W fo))
    (ht : eval (.Call (.Attribute o m apos) [] [] pos) X.env = (do
      let ov ← eval o X.env
      standAt apos.atName
      let (f, first) ← holding [ov] (getMethod ov m pl)
      callWith pos f first (backTo pos (starEach [] X.env)) (backToKw pos (keywordEach [] X.env))) := by rfl) :
    PE X (.Call (.Attribute o m apos) [] [] pos) (teOf X.K cl W (xMeth c m g fo aNil)) :=
  PE.w (pe_methX0 qo hcl hm F hr hb (fun σ => passAt tk σ) ht) fun σ H Q ⟨μ, st, h, S, L, k⟩ => ⟨μ, st, h, S, L, KO.seq k fun μ1 h1 H1 a x g1 S1 r1 k1 => by
    split at k1
    · rename_i i fs e1
      split at k1
      · rename_i hl
        obtain ⟨a, dx, ys, rfl, rfl, hi, ho, ha, en, rs⟩ := ins_ok S1 r1 e1
        have lk := lookup_ok (f := m) en rs
        rw [Option.isNone_iff_eq_none.mp hl] at lk
        exact ⟨a, dx, ys, rfl, ha, lk, spOf_of hc S1 (.cons r1 .nil) k1⟩
      · exact k1.elim
    · exact k1.elim⟩
end

/-! ### xs.append(e); a list that is done -/
def gAppend (v : PV) (as : List PV) (h : Hh) : Rs PV := match v, as with
  | .ref i, [u] => match h[i]? with
    | some (.lst l) => if l.length < sizeLine then .ok .non (h.set i (.lst (l ++ [u]))) else .bad
    | _ => .bad
  | _, _ => .bad
/-- the list at an id stays as it is from now on -/
def xFrz (f : Ex) : Ex := fun st h => (f st h).bind fun v h1 => match v with
  | .ref i => match h1[i]? with
    | some (.lst l) => .ok (.lst l) (h1.set i .gone)
    | _ => .bad
  | _ => .bad
section
variable {K : PySem.W.Frag} {cl : En} {μ : Mp} {h : Hh} {H : Hp}
theorem v_append : VMt K cl gAppend rAppend := by
  intro μ h H a as A AS W σ Q S ra rs k
  unfold gAppend at k
  split at k
  · rename_i i u
    obtain ⟨U, rfl, ru⟩ := vrs1 rs
    split at k
    · rename_i l e1
      cases ra with
      | ref q =>
        rename_i a
        cases S.at q e1 with
        | lst hp rl =>
          rename_i xs
          split at k
          · rename_i hl
            have hk : ∀ p, p ≠ a → upd H a (.lst (xs ++ [U])) p = H p := fun p hq => upd_ne hq
            have gw := grow_set (ob := .lst (l ++ [u])) q e1 (by intro z; cases z) hk (S.nres q)
            refine ⟨a, xs, U, rfl, rfl, hp, by rw [← VRs.length rl]; exact hl, k μ _ .non gw (S.set q e1 (by intro z; cases z) hk (.lst upd_same (VRs.grow gw.toGrw (VRs.append rl (.cons ru .nil))))) .non⟩
          · exact k.elim
    · exact k.elim
  · exact k.elim
/-- what a set list becomes -/
theorem grow_gone {i : Nat} {a : Addr} {o : Ob} (S : Sim K cl μ h H) (hi : μ.ids[i]? = some a) (ho : h[i]? = some o) (ng : o ≠ .gone) : Grow μ h H μ (h.set i .gone) H ∧ Sim K cl μ (h.set i .gone) H ∧ ¬ Live μ (h.set i .gone) a := by
  have gw := grow_set (ob := .gone) hi ho ng (fun _ _ => rfl : ∀ q, q ≠ a → H q = H q) (S.nres hi)
  obtain ⟨u, hu⟩ := (S.at hi ho).some
  refine ⟨gw, S.set hi ho ng (fun _ _ => rfl) (.gone hu), fun l => ?_⟩
  rcases l with l | ⟨j, oj, e1, e2, n⟩
  · exact S.nres hi l
  · have hj := nodup_get S.nd e1 hi
    subst hj
    rcases set_get e2 with ⟨_, z⟩ | ⟨z, _⟩
    · exact n z
    · exact z rfl
end
section
variable {X : Cx} {cl : En} {W : WX} {e : Expr} {f : Ex}
theorem e_frz (q : PE X e (teOf X.K cl W f)) : PE X e (teOf X.K cl W (xFrz f)) :=
  PE.w q fun σ H Q ⟨μ, st, h, S, L, k⟩ => ⟨μ, st, h, S, L, KO.seq k fun μ1 h1 H1 a x g1 S1 r1 k1 => by
    cases r1 with
    | ref q =>
      rename_i i a
      cases e1 : h1[i]? with
      | none => simp only [e1] at k1; exact k1.elim
      | some o =>
        cases o with
        | lst l =>
          simp only [e1] at k1
          cases S1.at q e1 with
          | lst hp rl =>
            obtain ⟨gw, Sg, nl⟩ := grow_gone S1 q e1 (by intro z; cases z)
            exact k1 μ1 H1 (.ref a) gw Sg (.lst nl hp (VRs.grow gw.toGrw rl))
        | dct l => simp only [e1] at k1; exact k1.elim
        | dcn l => simp only [e1] at k1; exact k1.elim
        | ins c fs => simp only [e1] at k1; exact k1.elim
        | gone => simp only [e1] at k1; exact k1.elim
    | _ => exact k1.elim⟩
end
end TR

set_option Elab.async false
set_option linter.all false
set_option maxRecDepth 100000
set_option maxHeartbeats 4000000
namespace TR
open PySem PySem.Spec L2
open PyProof.Rows (envOfC)

/-! ### texts: join, split, in; walked -/
def strList (v : PV) (h : Hh) : Option (List Str) := match v with
  | .tup l => strsOf l
  | v => (asL v h).bind strsOf
def gJoin (v : PV) (as : List PV) (h : Hh) : Rs PV := match v, as with
  | .str a, [u] => match strList u h with
    | some ys => if (ys.map (·.length)).sum + ys.length * a.length ≤ 16777216 then .ok (.str (Txt.join a ys)) h else .bad
    | none => .bad
  | _, _ => .bad
def gSplit (v : PV) (as : List PV) (h : Hh) : Rs PV := match v, as with
  | .str a, [.str b] => if (b.length == 0) = false ∧ a.length + 2 ≤ sizeLine then .ok (.lst ((Txt.split a b).map .str)) h else .bad
  | _, _ => .bad
def gInS (neg : Bool) (a b : PV) (h : Hh) : Rs PV := match a, b with
  | .str i, .str j => .ok (.bl (if neg then !(!(Builtin.Str.occurrences j i 0 j.length 1).isEmpty) else !(Builtin.Str.occurrences j i 0 j.length 1).isEmpty)) h
  | _, _ => .bad
def chars (x : Str) : List PV := x.cps.toList.map fun c => .str ⟨#[c]⟩
def iStrR (f : Ex) : Sl → Hh → Rs (List PV) := fun st h => (f st h).bind fun v h1 => match v with
  | .str x => .ok (chars x) h1
  | _ => .bad
section
variable {K : PySem.W.Frag} {cl : En} {μ : Mp} {h : Hh} {H : Hp}
theorem vrs_strs : ∀ ys : List Str, VRs K cl μ h H (ys.map .str) (ys.map V.str)
  | [] => .nil
  | _ :: r => .cons .str (vrs_strs r)
theorem strList_ok {v x ys} (S : Sim K cl μ h H) (r : VR K cl μ h H v x) (e : strList v h = some ys) : ∃ p, x = .ref p ∧ (SqL K H p (ys.map V.str) ∨ SqT K H p (ys.map V.str)) := by
  by_cases ht : ∃ l, v = .tup l
  · obtain ⟨l, rfl⟩ := ht
    obtain ⟨p, xs, rfl, hp, rs⟩ := tup_ok r
    have := strs_ok (show strsOf l = some ys from e) rs
    subst this
    exact ⟨p, rfl, .inr hp⟩
  · have e' : (asL v h).bind strsOf = some ys := by
      cases v with
      | tup l => exact absurd ⟨l, rfl⟩ ht
      | _ => exact e
    obtain ⟨l, e1, e2⟩ := Option.bind_eq_some_iff.mp e'
    obtain ⟨p, xs, rfl, hp, r1⟩ := asL_ok S r e1
    have := strs_ok e2 r1
    subst this
    exact ⟨p, rfl, .inl hp⟩
theorem v_join : VMt K cl gJoin (fun x xs H Q => ∃ a p, ∃ ys : List Str, x = .str a ∧ xs = [.ref p] ∧ (SqL K H p (ys.map V.str) ∨ SqT K H p (ys.map V.str)) ∧ (ys.map (·.length)).sum + ys.length * a.length ≤ 16777216 ∧ Q (.str (Txt.join a ys)) H) := by
  intro μ h H a as A AS W σ Q S ra rs k
  unfold gJoin at k
  split at k
  · rename_i z u
    cases vStr ra
    obtain ⟨U, rfl, ru⟩ := vrs1 rs
    split at k
    · rename_i ys e1
      obtain ⟨p, rfl, hp⟩ := strList_ok S ru e1
      split at k
      · rename_i hl
        exact ⟨z, p, ys, rfl, rfl, hp, hl, KO.now (R := rV K cl) S .str k⟩
      · exact k.elim
    · exact k.elim
  · exact k.elim
theorem v_split : VMt K cl gSplit (fun x xs H Q => ∃ a b, x = .str a ∧ xs = [.str b] ∧ (b.length == 0) = false ∧ a.length + 2 ≤ sizeLine ∧ rNewStrs (Txt.split a b) H Q) := by
  intro μ h H a as A AS W σ Q S ra rs k
  unfold gSplit at k
  split at k
  · rename_i z u
    cases vStr ra
    obtain ⟨U, rfl, ru⟩ := vrs1 rs
    cases vStr ru
    split at k
    · rename_i hl
      exact ⟨z, u, rfl, rfl, hl.1, hl.2, KO.lst S (vrs_strs _) k⟩
    · exact k.elim
  · exact k.elim
theorem v_inS : VOp K cl (gInS false) (fun x y H Q => ∃ i j, x = .str i ∧ y = .str j ∧ Q (.bl (!(Builtin.Str.occurrences j i 0 j.length 1).isEmpty)) H) := by
  intro μ h H a b A B W σ Q S ra rb k
  unfold gInS at k
  split at k
  · cases vStr ra
    cases vStr rb
    exact ⟨_, _, rfl, rfl, KO.now (R := rV K cl) S .bl k⟩
  · exact k.elim
theorem v_notInS : VOp K cl (gInS true) (fun x y H Q => ∃ i j, x = .str i ∧ y = .str j ∧ Q (.bl (!(!(Builtin.Str.occurrences j i 0 j.length 1).isEmpty))) H) := by
  intro μ h H a b A B W σ Q S ra rb k
  unfold gInS at k
  split at k
  · cases vStr ra
    cases vStr rb
    exact ⟨_, _, rfl, rfl, KO.now (R := rV K cl) S .bl k⟩
  · exact k.elim
theorem it_str {x : Str} : ItR K cl μ h H (chars x) (Its x) := by
  intro μ' h' H' g S
  have hl : (chars x).length = x.cps.size := by simp [chars]
  refine ⟨fun i hi => ⟨(by rw [hl] at hi; exact hi), fun v H'' y => ?_⟩, (by rw [hl]; exact Nat.le_refl _)⟩
  obtain ⟨e, c, ec, ev⟩ := y
  subst e ev
  refine ⟨Grow.refl _ _ _, S, .str ⟨#[c]⟩, ?_, .str⟩
  simp [chars, ec]
end
section
variable {X : Cx} {cl : En} {W : WX} {e tg : Expr} {f : Ex}
theorem i_str (q : PE X e (teOf X.K cl W f)) : PI X tg e (tiOf X.K cl W (iStrR f)) :=
  PI.w (pi_str q) fun σ H R ⟨μ, st, h, S, L, k⟩ => ⟨μ, st, h, S, L, KO.seq k fun μ1 h1 H1 a x g1 S1 r1 k1 => by
    cases r1 with
    | str => exact ⟨_, rfl, KO.now (R := ItR X.K cl) S1 it_str k1⟩
    | _ => exact k1.elim⟩
end

/-! ### x in xs, of flat things -/
def flatP : PV → Bool
  | .non => true
  | .bl _ => true
  | .int _ => true
  | .str _ => true
  | _ => false
def eqP : PV → PV → Bool
  | .non, .non => true
  | .bl a, .bl b => a == b
  | .bl a, .int b => (if a then 1 else 0) == b
  | .int a, .bl b => a == (if b then 1 else 0)
  | .int a, .int b => a == b
  | .str a, .str b => a == b
  | _, _ => false
def inP (x : PV) (l : List PV) : Bool := l.any fun y => eqP y x
def gIn (neg : Bool) (a b : PV) (h : Hh) : Rs PV := match (match b with | .tup l => some l | v => asL v h) with
  | some l => if flatP a = true ∧ l.all flatP = true then .ok (.bl (if neg then !inP a l else inP a l)) h else .bad
  | none => .bad
section
variable {K : PySem.W.Frag} {cl : En} {μ : Mp} {h : Hh} {H : Hp}
theorem flat_ok {v x} (r : VR K cl μ h H v x) (f : flatP v = true) : flatV x = true := by
  cases r <;> first | rfl | (cases f; done)
theorem flats_ok : ∀ {l xs}, VRs K cl μ h H l xs → l.all flatP = true → xs.all flatV = true
  | _, _, .nil, _ => rfl
  | _, _, .cons r rs, f => by
    simp only [List.all_cons, Bool.and_eq_true] at f ⊢
    exact ⟨flat_ok r f.1, flats_ok rs f.2⟩
theorem eq_ok {v x u y} (r : VR K cl μ h H v x) (q : VR K cl μ h H u y) (f : flatP v = true) (g : flatP u = true) : eqV x y = eqP v u := by
  cases r <;> first
    | (cases f; done)
    | (cases q <;> first | (cases g; done) | rfl)
theorem in_ok {v x} (r : VR K cl μ h H v x) (f : flatP v = true) : ∀ {l xs}, VRs K cl μ h H l xs → l.all flatP = true → inV x xs = inP v l
  | _, _, .nil, _ => rfl
  | _, _, .cons a b, g => by
    simp only [List.all_cons, Bool.and_eq_true] at g
    have ih := in_ok r f b g.2
    unfold inV inP at ih ⊢
    simp only [List.any_cons]
    rw [eq_ok a r g.1 f, ih]
theorem v_in {neg : Bool} : VOp K cl (gIn neg) (rIn K neg) := by
  intro μ h H a b A B W σ Q S ra rb k
  unfold gIn at k
  split at k
  · rename_i l e
    split at k
    · rename_i hf
      have hs : ∃ p xs, B = .ref p ∧ (SqL K H p xs ∨ SqT K H p xs) ∧ VRs K cl μ h H l xs := by
        split at e
        · cases e
          obtain ⟨p, xs, rfl, hp, rs⟩ := tup_ok rb
          exact ⟨p, xs, rfl, .inr hp, rs⟩
        · obtain ⟨p, xs, rfl, hp, rs⟩ := asL_ok S rb e
          exact ⟨p, xs, rfl, .inl hp, rs⟩
      obtain ⟨p, xs, rfl, hp, rs⟩ := hs
      refine ⟨p, xs, rfl, hp, flat_ok ra hf.1, flats_ok rs hf.2, ?_⟩
      rw [in_ok ra hf.1 rs hf.2]
      exact KO.now (R := rV K cl) S .bl k
    · exact k.elim
  · exact k.elim
end

end TR

set_option Elab.async false
set_option linter.all false
set_option maxRecDepth 100000
set_option maxHeartbeats 4000000
namespace TR
open PySem PySem.Spec L2
open PyProof.Rows (envOfC)

/-! ### == of data -/
def dataP (h : Hh) : Nat → PV → Option PyData
  | 0, _ => none
  | n + 1, v => match v with
    | .non => some .none
    | .bl b => some (.bool b)
    | .int i => some (.int i)
    | .str x => some (.str x)
    | .tup l => (mapO (dataP h n) l).map .tuple
    | .lst l => (mapO (dataP h n) l).map .list
    | .scr l => (mapO (dataP h n) l).map .list
    | .ref i => match h[i]? with
      | some (.lst l) => (mapO (dataP h n) l).map .list
      | _ => none
    | _ => none
def gEqD (neg : Bool) (a b : PV) (h : Hh) : Rs PV := match dataP h 30 a, dataP h 30 b with
  | some d, some e => if SeqAt.shaped d = true ∧ SeqAt.shaped e = true then .ok (.bl (if neg then !PyData.eqv d e else PyData.eqv d e)) h else .bad
  | _, _ => .bad
section
variable {K : PySem.W.Frag} {cl : En} {μ : Mp} {h : Hh} {H : Hp}
theorem mapO_ok {f : PV → Option PyData} (hf : ∀ v x d, VR K cl μ h H v x → f v = some d → Dp K H x d) : ∀ {l xs ds}, VRs K cl μ h H l xs → mapO f l = some ds → DpAll K H xs ds
  | _, _, _, .nil, e => by cases e; exact .nil
  | v :: l, _, ds, .cons r rs, e => by
    unfold mapO at e
    split at e
    · rename_i d es e1 e2
      cases e
      exact .cons (hf _ _ _ r e1) (mapO_ok hf rs e2)
    · cases e
theorem dataP_ok (S : Sim K cl μ h H) : ∀ (n : Nat) {v x d}, VR K cl μ h H v x → dataP h n v = some d → Dp K H x d
  | 0, _, _, _, _, e => by cases e
  | n + 1, v, x, d, r, e => by
    have ih : ∀ v x d, VR K cl μ h H v x → dataP h n v = some d → Dp K H x d := fun v x d r e => dataP_ok S n r e
    cases r with
    | non => cases e; exact .non
    | bl => cases e; exact .bl _
    | int => cases e; exact .int _
    | str => cases e; exact .str _
    | tup f r =>
      obtain ⟨ds, e1, e2⟩ := Option.map_eq_some_iff.mp (show (mapO (dataP h n) _).map .tuple = some d from e)
      cases e2
      exact .tup (.inl f.2) (mapO_ok ih r e1)
    | ktup f r =>
      obtain ⟨ds, e1, e2⟩ := Option.map_eq_some_iff.mp (show (mapO (dataP h n) _).map .tuple = some d from e)
      cases e2
      exact .tup (.inr f) (mapO_ok ih r e1)
    | lst m f r =>
      obtain ⟨ds, e1, e2⟩ := Option.map_eq_some_iff.mp (show (mapO (dataP h n) _).map .list = some d from e)
      cases e2
      exact .lst (SqL.of f) (mapO_ok ih r e1)
    | scr f r =>
      obtain ⟨ds, e1, e2⟩ := Option.map_eq_some_iff.mp (show (mapO (dataP h n) _).map .list = some d from e)
      cases e2
      exact .lst (.inl f.2) (mapO_ok ih r e1)
    | kscr f r =>
      obtain ⟨ds, e1, e2⟩ := Option.map_eq_some_iff.mp (show (mapO (dataP h n) _).map .list = some d from e)
      cases e2
      exact .lst (.inr f) (mapO_ok ih r e1)
    | dct m f a b r => cases e
    | dctN m f a b r => cases e
    | ref q =>
      simp only [dataP] at e
      split at e
      · rename_i l e0
        obtain ⟨ds, e1, e2⟩ := Option.map_eq_some_iff.mp e
        cases e2
        cases S.at q e0 with
        | lst f r => exact .lst (SqL.of f) (mapO_ok ih r e1)
      · cases e
    | cls => cases e
    | ty => cases e
theorem v_eqD : VOp K cl (gEqD false) (rEqD K) := by
  intro μ h H a b A B W σ Q S ra rb k
  unfold gEqD at k
  split at k
  · rename_i d e e1 e2
    split at k
    · rename_i hs
      exact ⟨d, e, dataP_ok S _ ra e1, dataP_ok S _ rb e2, hs.1, hs.2, KO.now (R := rV K cl) S .bl k⟩
    · exact k.elim
  · exact k.elim
theorem v_neD : VOp K cl (gEqD true) (rNeD K) := by
  intro μ h H a b A B W σ Q S ra rb k
  unfold gEqD at k
  split at k
  · rename_i d e e1 e2
    split at k
    · rename_i hs
      exact ⟨d, e, dataP_ok S _ ra e1, dataP_ok S _ rb e2, hs.1, hs.2, KO.now (R := rV K cl) S .bl k⟩
    · exact k.elim
  · exact k.elim
end

/-! ### dicts with int and text keys -/
def keyP (k : Key) : PV := match k with
  | .inl i => .int i
  | .inr x => .str x
/-- the value at a key -/
def dLook (l : List (PV × PV)) (k : Key) : Option PV := match l with
  | [] => none
  | (q, v) :: r => if keyV q = some k then some v else dLook r k
def dPut (l : List (PV × PV)) (k : Key) (v : PV) : List (PV × PV) := match l with
  | [] => [(keyP k, v)]
  | (q, u) :: r => if keyV q = some k then (q, v) :: r else (q, u) :: dPut r k v
/-- a dict that stands, or one at an id -/
def asD (v : PV) (h : Hh) : Option (List (PV × PV)) := match v with
  | .dct l => some l
  | .ref i => match h[i]? with
    | some (.dct l) => some l
    | _ => none
  | _ => none
section
variable {K : PySem.W.Frag} {cl : En} {μ : Mp} {h : Hh} {H : Hp}
theorem keyV_ok {v k x} (r : VR K cl μ h H v x) (e : keyV v = some k) : x = kV k := by
  cases r with
  | int => cases e; rfl
  | str => cases e; rfl
  | _ => cases e
theorem look_ok {k : Key} : ∀ {l : List (PV × PV)} {kvs : List (Key × V)}, l.map (fun q => keyV q.1) = kvs.map (fun q => some q.1) → VRs K cl μ h H (l.map (·.2)) (kvs.map (·.2)) → match dLook l k with
    | some v => ∃ x, valV kvs k = some x ∧ VR K cl μ h H v x
    | none => valV kvs k = none
  | [], [], _, _ => rfl
  | (q, v) :: l, (k', x) :: kvs, e, r => by
    simp only [List.map_cons, List.cons.injEq] at e
    obtain ⟨e1, e2⟩ := e
    simp only [List.map_cons] at r
    cases r with
    | cons a b =>
      unfold dLook
      rw [e1]
      by_cases hk : k' = k
      · subst hk
        simp only [if_true]
        exact ⟨x, by simp [valV], a⟩
      · rw [if_neg (fun z => hk (Option.some.inj z))]
        have ih := look_ok (k := k) e2 b
        have ev : valV ((k', x) :: kvs) k = valV kvs k := by simp [valV, hk]
        rw [ev]
        exact ih
  | [], _ :: _, e, _ => by simp at e
  | _ :: _, [], e, _ => by simp at e
theorem asD_ok {v x l} (S : Sim K cl μ h H) (r : VR K cl μ h H v x) (e : asD v h = some l) : ∃ p kvs, x = .ref p ∧ H p = some (.dK kvs) ∧ l.map (fun q => keyV q.1) = kvs.map (fun q => some q.1) ∧ VRs K cl μ h H (l.map (·.2)) (kvs.map (·.2)) := by
  unfold asD at e
  cases r with
  | dct n f a b r => cases e; exact ⟨_, _, rfl, f, a, r⟩
  | ref q =>
    dsimp only at e
    split at e
    · rename_i l' e1
      cases e
      cases S.at q e1 with
      | dK f a _ r => exact ⟨_, _, rfl, f, a, r⟩
    · cases e
  | _ => cases e
end
end TR

set_option Elab.async false
set_option linter.all false
set_option maxRecDepth 100000
set_option maxHeartbeats 4000000
namespace TR
open PySem PySem.Spec L2
open PyProof.Rows (envOfC)

/-! ### d[k], k in d, d.get(k), d.get(k, x), list(d), len(d), d[k] = v: keys ints and texts -/
def gDGet (a b : PV) (h : Hh) : Rs PV := match asD a h, keyV b with
  | some l, some k => match dLook l k with
    | some v => .ok v h
    | none => .bad
  | _, _ => .bad
def gDIn (neg : Bool) (b a : PV) (h : Hh) : Rs PV := match asD a h, keyV b with
  | some l, some k => .ok (.bl (if neg then !(dLook l k).isSome else (dLook l k).isSome)) h
  | _, _ => .bad
def rDGet : R2 := fun x y H Q => ∃ a v, x = .ref a ∧ DGet H a y (some v) ∧ Q v H
def rDIn (neg : Bool) : R2 := fun y x H Q => ∃ a o, x = .ref a ∧ DGet H a y o ∧ Q (.bl (if neg then !o.isSome else o.isSome)) H
def xDGet1 (fo fe : Ex) : Ex := fun st h => (fo st h).bind fun a h1 => if (asD a h1).isSome = true then (fe st h1).bind fun b h2 => match asD a h2, keyV b with
    | some l, some k => .ok ((dLook l k).getD .non) h2
    | _, _ => .bad
  else .bad
def xDGet2 (fo fe fx : Ex) : Ex := fun st h => (fo st h).bind fun a h1 => if (asD a h1).isSome = true then (fe st h1).bind fun b h2 => (fx st h2).bind fun c h3 => match asD a h3, keyV b with
    | some l, some k => .ok ((dLook l k).getD c) h3
    | _, _ => .bad
  else .bad
def gListD (as : List PV) (h : Hh) : Rs PV := match as with
  | [v] => match asD v h with
    | some l => .ok (.lst (l.map (·.1))) h
    | none => .bad
  | _ => .bad
def gLenD (as : List PV) (h : Hh) : Rs PV := match as with
  | [v] => match asD v h with
    | some l => .ok (.int l.length) h
    | none => .bad
  | _ => .bad
section
variable {K : PySem.W.Frag} {cl : En} {μ : Mp} {h : Hh} {H : Hp}
theorem dget_at {a b A B l k} (S : Sim K cl μ h H) (ra : VR K cl μ h H a A) (rb : VR K cl μ h H b B) (e1 : asD a h = some l) (e2 : keyV b = some k) : ∃ p o, A = .ref p ∧ DGet H p B o ∧ (match dLook l k with
    | some v => ∃ x, o = some x ∧ VR K cl μ h H v x
    | none => o = none) := by
  obtain ⟨p, kvs, rfl, hp, ek, rs⟩ := asD_ok S ra e1
  have eB := keyV_ok rb e2
  subst eB
  refine ⟨p, valV kvs k, rfl, DGet.k hp, ?_⟩
  have lk := look_ok (k := k) ek rs
  cases e : dLook l k with
  | none => rw [e] at lk; exact lk
  | some v => rw [e] at lk; exact lk
theorem v_dget : VOp K cl gDGet rDGet := by
  intro μ h H a b A B W σ Q S ra rb k
  unfold gDGet at k
  split at k
  · rename_i l kk e1 e2
    obtain ⟨p, o, rfl, g, m⟩ := dget_at S ra rb e1 e2
    cases e : dLook l kk with
    | none => rw [e] at k; exact k.elim
    | some v =>
      rw [e] at k m
      obtain ⟨x, rfl, rx⟩ := m
      exact ⟨p, x, rfl, g, KO.now (R := rV K cl) S rx k⟩
  · exact k.elim
theorem v_din {neg : Bool} : VOp K cl (gDIn neg) (rDIn neg) := by
  intro μ h H b a B A W σ Q S rb ra k
  unfold gDIn at k
  split at k
  · rename_i l kk e1 e2
    obtain ⟨p, o, rfl, g, m⟩ := dget_at S ra rb e1 e2
    have eo : o.isSome = (dLook l kk).isSome := by
      cases e : dLook l kk with
      | none => rw [e] at m; subst m; rfl
      | some v =>
        rw [e] at m
        obtain ⟨x, rfl, _⟩ := m
        rfl
    refine ⟨p, o, rfl, g, ?_⟩
    rw [eo]
    exact KO.now (R := rV K cl) S .bl k
  · exact k.elim
theorem vrs_keys : ∀ {l : List (PV × PV)} {kvs : List (Key × V)}, l.map (fun q => keyV q.1) = kvs.map (fun q => some q.1) → VRs K cl μ h H (l.map (·.1)) (kvs.map fun kv => kV kv.1)
  | [], [], _ => .nil
  | (q, v) :: l, (k, x) :: kvs, e => by
    simp only [List.map_cons, List.cons.injEq] at e
    obtain ⟨e1, e2⟩ := e
    refine .cons ?_ (vrs_keys e2)
    cases q <;> first | (cases e1; done) | skip
    · cases e1; exact .int
    · cases e1; exact .str
  | [], _ :: _, e => by simp at e
  | _ :: _, [], e => by simp at e
theorem v_listD : VCall K cl gListD rListD := by
  intro μ h H as AS W σ Q S r k
  unfold gListD at k
  split at k
  · obtain ⟨V, rfl, q⟩ := vrs1 r
    split at k
    · rename_i l e
      obtain ⟨p, kvs, rfl, hp, ek, rs⟩ := asD_ok S q e
      exact ⟨p, kvs, rfl, hp, KO.lst S (vrs_keys ek) k⟩
    · exact k.elim
  · exact k.elim
theorem v_lenD : VCall K cl gLenD (fun xs H Q => ∃ a kvs, xs = [V.ref a] ∧ H a = some (.dK kvs) ∧ Q (.int kvs.length) H) := by
  intro μ h H as AS W σ Q S r k
  unfold gLenD at k
  split at k
  · obtain ⟨V, rfl, q⟩ := vrs1 r
    split at k
    · rename_i l e
      obtain ⟨p, kvs, rfl, hp, ek, rs⟩ := asD_ok S q e
      have hl : l.length = kvs.length := by simpa using congrArg List.length ek
      rw [hl] at k
      exact ⟨p, kvs, rfl, hp, KO.now (R := rV K cl) S .int k⟩
    · exact k.elim
  · exact k.elim
theorem isD_of {a A l} (S : Sim K cl μ h H) (ra : VR K cl μ h H a A) (e : asD a h = some l) : ∃ p, A = .ref p ∧ IsD H p := by
  obtain ⟨p, kvs, rfl, hp, _⟩ := asD_ok S ra e
  exact ⟨p, rfl, .inl ⟨kvs, .inl hp⟩⟩
end
section
variable {X : Cx} {cl : En} {W : WX} {o i e x : Expr} {f1 f2 f3 : Ex} {pos apos cpos : Pos}
theorem e_dget (hu : X.A.units + 1 < cLine) (p : PE X o (teOf X.K cl W f1)) (q : PE X i (teOf X.K cl W f2)) (hs : NoSl i) : PE X (.Subscript o i pos) (teOf X.K cl W (xOp gDGet f1 f2)) :=
  PE.w (pe_dget hu p q hs) fun σ H Q ⟨μ, st, h, S, L, k⟩ => ⟨μ, st, h, S, L, KO.seq k fun μ1 h1 H1 a x g1 S1 r1 k1 =>
    ⟨μ1, st, h1, S1, L.grow g1.toGrw, KO.seq k1 fun μ2 h2 H2 b y g2 S2 r2 k2 => v_dget _ _ _ _ _ _ _ W σ Q S2 (VR.grow g2.toGrw r1) r2 k2⟩⟩
theorem e_din (hu : X.A.units + 1 < cLine) (p : PE X i (teOf X.K cl W f1)) (q : PE X o (teOf X.K cl W f2)) (h1 : behindInMarks .In o = false := by rfl) : PE X (.Compare i [.In] [o] pos) (teOf X.K cl W (xOp (gDIn false) f1 f2)) :=
  PE.w (pe_cmp (pc_din hu p q) h1) fun σ H Q ⟨μ, st, h, S, L, k⟩ => ⟨μ, st, h, S, L, KO.seq k fun μ1 h1 H1 a x g1 S1 r1 k1 =>
    ⟨μ1, st, h1, S1, L.grow g1.toGrw, KO.seq k1 fun μ2 h2 H2 b y g2 S2 r2 k2 => v_din _ _ _ _ _ _ _ W σ Q S2 (VR.grow g2.toGrw r1) r2 k2⟩⟩
theorem e_dnotin (hu : X.A.units + 1 < cLine) (p : PE X i (teOf X.K cl W f1)) (q : PE X o (teOf X.K cl W f2)) (h1 : behindInMarks .NotIn o = false := by rfl) : PE X (.Compare i [.NotIn] [o] pos) (teOf X.K cl W (xOp (gDIn true) f1 f2)) :=
  PE.w (pe_cmp (pc_dnotin hu p q) h1) fun σ H Q ⟨μ, st, h, S, L, k⟩ => ⟨μ, st, h, S, L, KO.seq k fun μ1 h1 H1 a x g1 S1 r1 k1 =>
    ⟨μ1, st, h1, S1, L.grow g1.toGrw, KO.seq k1 fun μ2 h2 H2 b y g2 S2 r2 k2 => v_din _ _ _ _ _ _ _ W σ Q S2 (VR.grow g2.toGrw r1) r2 k2⟩⟩
/-- a test from a comparison's own rule -/
theorem b_pc {op : CmpOp} {g : PV → PV → Hh → Rs PV} {r : R2} {a b : Expr} (hc : PC X op a b (tOp r (teOf X.K cl W f1) (teOf X.K cl W f2))) (v : VOp X.K cl g r) (h1 : behindInMarks op b = false) : PT X (.Compare a [op] [b] pos) (ttOf X.K cl W (bOf (xOp g f1 f2))) :=
  PT.w (pt_cmp hc h1) fun σ H Q ⟨μ, st, h, S, L, k⟩ => by
    have k' : KO X.K cl rB W μ h H σ ((f1 st h).bind fun a h1 => ((f2 st h1).bind fun b h2 => g a b h2).bind fun v h3 => match v with | .bl b => .ok b h3 | _ => .bad) Q := by
      have k0 : KO X.K cl rB W μ h H σ (((f1 st h).bind fun a h1 => (f2 st h1).bind fun b h2 => g a b h2).bind fun v h3 => match v with | .bl b => .ok b h3 | _ => .bad) Q := k
      cases e1 : f1 st h with
      | ok a1 h1 => rw [e1] at k0; exact k0
      | exc c fs h1 => rw [e1] at k0; exact k0
      | bad => rw [e1] at k0; exact k0
    refine ⟨μ, st, h, S, L, KO.seq k' fun μ1 h1 H1 a x g1 S1 r1 k1 => ?_⟩
    have k2' : KO X.K cl rB W μ1 h1 H1 σ ((f2 st h1).bind fun b h2 => (g a b h2).bind fun v h3 => match v with | .bl b => .ok b h3 | _ => .bad) Q := by
      cases e2 : f2 st h1 with
      | ok a1 h1 => rw [e2] at k1; exact k1
      | exc c fs h1 => rw [e2] at k1; exact k1
      | bad => rw [e2] at k1; exact k1
    refine ⟨μ1, st, h1, S1, L.grow g1.toGrw, KO.seq k2' fun μ2 h2 H2 b y g2 S2 r2 k2 => ?_⟩
    refine v _ _ _ _ _ _ _ W σ _ S2 (VR.grow g2.toGrw r1) r2 (KO.seq k2 fun μ3 h3 H3 z zv g3 S3 r3 k3 => ?_)
    cases r3 with
    | bl => exact ⟨_, rfl, KO.now (R := rB) S3 rfl k3⟩
    | _ => exact k3.elim
theorem b_din (hu : X.A.units + 1 < cLine) (p : PE X i (teOf X.K cl W f1)) (q : PE X o (teOf X.K cl W f2)) (h1 : behindInMarks .In o = false := by rfl) : PT X (.Compare i [.In] [o] pos) (ttOf X.K cl W (bOf (xOp (gDIn false) f1 f2))) :=
  b_pc (r := rDIn false) (pc_din hu p q) v_din h1
theorem b_dnotin (hu : X.A.units + 1 < cLine) (p : PE X i (teOf X.K cl W f1)) (q : PE X o (teOf X.K cl W f2)) (h1 : behindInMarks .NotIn o = false := by rfl) : PT X (.Compare i [.NotIn] [o] pos) (ttOf X.K cl W (bOf (xOp (gDIn true) f1 f2))) :=
  b_pc (r := rDIn true) (pc_dnotin hu p q) v_din h1
theorem e_dget1 (hu : X.A.units + 1 < cLine) (p : PE X o (teOf X.K cl W f1)) (q : PE X e (teOf X.K cl W f2)) (m : M1 X o "get" apos e cpos) : PE X (.Call (.Attribute o "get" apos) [e] [] cpos) (teOf X.K cl W (xDGet1 f1 f2)) :=
  PE.w (pe_dget1 hu p q m) fun σ H Q ⟨μ, st, h, S, L, k⟩ => ⟨μ, st, h, S, L, KO.seq k fun μ1 h1 H1 a x g1 S1 r1 k1 => by
    split at k1
    · rename_i hs
      obtain ⟨l0, e0⟩ := Option.isSome_iff_exists.mp hs
      obtain ⟨p, rfl, d⟩ := isD_of S1 r1 e0
      refine ⟨p, rfl, d, μ1, st, h1, S1, L.grow g1.toGrw, KO.seq k1 fun μ2 h2 H2 b y g2 S2 r2 k2 => ?_⟩
      split at k2
      · rename_i l kk e1 e2
        obtain ⟨p', o, ep, g, m⟩ := dget_at S2 (VR.grow g2.toGrw r1) r2 e1 e2
        cases ep
        refine ⟨o, g, ?_⟩
        cases e : dLook l kk with
        | none => rw [e] at m k2; subst m; exact KO.now (R := rV X.K cl) S2 .non k2
        | some v =>
          rw [e] at m k2
          obtain ⟨x, rfl, rx⟩ := m
          exact KO.now (R := rV X.K cl) S2 rx k2
      · exact k2.elim
    · exact k1.elim⟩
theorem e_dget2 (hu : X.A.units + 1 < cLine) (p : PE X o (teOf X.K cl W f1)) (q : PE X e (teOf X.K cl W f2)) (q' : PE X x (teOf X.K cl W f3)) (m : M2 X o "get" apos e x cpos) : PE X (.Call (.Attribute o "get" apos) [e, x] [] cpos) (teOf X.K cl W (xDGet2 f1 f2 f3)) :=
  PE.w (pe_dget2 hu p q q' m) fun σ H Q ⟨μ, st, h, S, L, k⟩ => ⟨μ, st, h, S, L, KO.seq k fun μ1 h1 H1 a x g1 S1 r1 k1 => by
    split at k1
    · rename_i hs
      obtain ⟨l0, e0⟩ := Option.isSome_iff_exists.mp hs
      obtain ⟨p, rfl, d⟩ := isD_of S1 r1 e0
      refine ⟨p, rfl, d, μ1, st, h1, S1, L.grow g1.toGrw, KO.seq k1 fun μ2 h2 H2 b y g2 S2 r2 k2 => ⟨μ2, st, h2, S2, (L.grow g1.toGrw).grow g2.toGrw, KO.seq k2 fun μ3 h3 H3 c z g3 S3 r3 k3 => ?_⟩⟩
      split at k3
      · rename_i l kk e1 e2
        obtain ⟨p', o, ep, g, m⟩ := dget_at S3 (VR.grow (g2.trans g3).toGrw r1) (VR.grow g3.toGrw r2) e1 e2
        cases ep
        refine ⟨o, g, ?_⟩
        cases e : dLook l kk with
        | none => rw [e] at m k3; subst m; exact KO.now (R := rV X.K cl) S3 r3 k3
        | some v =>
          rw [e] at m k3
          obtain ⟨x, rfl, rx⟩ := m
          exact KO.now (R := rV X.K cl) S3 rx k3
      · exact k3.elim
    · exact k1.elim⟩
end

/-! ### xs[i] = e -/
def sSetL (fo fi fv : Ex) : Sx := fun st h => (fv st h).toS st fun v h1 => (fo st h1).toS st fun o h2 => (fi st h2).toS st fun i h3 => match o, i with
  | .ref n, .int k => match h3[n]? with
    | some (.lst l) => match ixN l.length k with
      | some j => .nx st (h3.set n (.lst (l.set j v)))
      | none => .bad
    | _ => .bad
  | _, _ => .bad
section
variable {X : Cx} {cl : En} {W : WX} {o i e : Expr} {fo fi fv : Ex} {pos pos' : Pos}
theorem s_setL (po : PE X o (teOf X.K cl W fo)) (pi : PE X i (teOf X.K cl W fi)) (pv : PE X e (teOf X.K cl W fv))
    (ha : ∀ v, assign (.Subscript o i pos') X.env v = (do
      let ov ← holding [v] (eval o X.env)
      let iv ← holding [v, ov] (eval i X.env)
      standAt pos'
      holding [v, ov, iv] (setItem ov iv v)
      release [v, ov, iv] []) := by intro _; rfl)
    (hs : swapsWithSole [.Subscript o i pos'] e pos.line X.env = pure false := by rfl) (hw : swappedStores [.Subscript o i pos'] e X.env = pure none := by rfl)
    (h1 : (assignEach [.Subscript o i pos'] X.env).map (·.2) = [assign (.Subscript o i pos') X.env] := by rfl) : PS X (.Assign [.Subscript o i pos'] e pos) (tsOf X.K cl W (sSetL fo fi fv)) :=
  PS.w (ps_asg pv (pg_sub po pi set_list ha) hs hw h1) fun D σ H ⟨μ, st, h, S, L, k⟩ => ⟨μ, st, h, S, L, SO.seq L k fun μ1 h1 H1 v x g1 S1 L1 r1 k1 => ⟨μ1, st, h1, S1, L1, SO.seq L1 k1 fun μ2 h2 H2 ov y g2 S2 L2 r2 k2 =>
    ⟨μ2, st, h2, S2, L2, SO.seq L2 k2 fun μ3 h3 H3 iv z g3 S3 L3 r3 k3 => by
      have r2' := VR.grow g3.toGrw r2
      have r1' := VR.grow (g2.trans g3).toGrw r1
      split at k3
      · rename_i n kk
        cases vInt r3
        cases r2' with
        | ref q =>
          rename_i a
          split at k3
          · rename_i l e1
            cases S3.at q e1 with
            | lst hp rl =>
              rename_i xs
              split at k3
              · rename_i j ej
                have hk : ∀ p, p ≠ a → upd H3 a (.lst (xs.set j x)) p = H3 p := fun p hq => upd_ne hq
                have gw := grow_set (ob := .lst (l.set j v)) q e1 (by intro z; cases z) hk (S3.nres q)
                refine ⟨a, xs, kk, j, rfl, rfl, hp, by rw [← VRs.length rl]; exact ej, ?_⟩
                exact k3 μ3 _ σ gw (S3.set q e1 (by intro z; cases z) hk (.lst upd_same (VRs.grow gw.toGrw (VRs.set r1' j rl)))) (L3.grow gw.toGrw)
              · exact k3.elim
          · exact k3.elim
      · exact k3.elim⟩⟩⟩
end
end TR

set_option Elab.async false
set_option linter.all false
set_option maxRecDepth 100000
set_option maxHeartbeats 4000000
namespace TR
open PySem PySem.Spec L2
open PyProof.Rows (envOfC IsTup)

/-! ### dicts whose keys are tuples of any depth -/
mutual
inductive NK (K : PySem.W.Frag) (H : Hp) : NestedKey → V → Prop
  | non : NK K H .none .non
  | bl {b} : NK K H (.num (if b then 1 else 0)) (.bl b)
  | int {i} : NK K H (.num i) (.int i)
  | str {x} : NK K H (.text x) (.str x)
  | tup {p xs ks} : SqT K H p xs → NKs K H ks xs → NK K H (.tup ks) (.ref p)
inductive NKs (K : PySem.W.Frag) (H : Hp) : List NestedKey → List V → Prop
  | nil : NKs K H [] []
  | cons {k v ks vs} : NK K H k v → NKs K H ks vs → NKs K H (k :: ks) (v :: vs)
end
section
variable {X : Cx} {pins : List (Addr × Obj)} {σ : St} {H : Hp} {s : Shared}
mutual
theorem NK.is (I : Inv X pins σ H s) : ∀ (k : NestedKey) (x : V) (u : Value), NK X.K H k x → RelV x u → NestedIs s.heap k u
  | .none, _, _, .non, r => by cases r; exact .none
  | .num _, _, _, .bl, r => by cases r; exact .bool (by first | rfl | (split <;> simp_all))
  | .num _, _, _, .int, r => by obtain ⟨t, rfl⟩ := r; exact .int _ t
  | .text _, _, _, .str, r => by obtain ⟨t, rfl⟩ := r; exact .text _ t
  | .tup ks, _, _, .tup q n, r => by
    cases r
    obtain ⟨its, rv, ⟨o, h1, h2, m, h3⟩, _⟩ := I.tuple q
    exact .tup h1 h2 h3 (by simpa using NKs.is I ks _ its n rv)
theorem NKs.is (I : Inv X pins σ H s) : ∀ (ks : List NestedKey) (xs : List V) (us : List Value), NKs X.K H ks xs → Vals xs us → NestedAll s.heap ks us
  | [], _, _, .nil, .nil => .nil
  | _ :: _, _, _, .cons a b, .cons r rs => .cons (NK.is I _ _ _ a r) (NKs.is I _ _ _ b rs)
end
end
section
variable {K : PySem.W.Frag} {cl : En} {μ : Mp} {h : Hh} {H : Hp}
theorem nks_of {f : PV → Option NestedKey} (hf : ∀ v x k, VR K cl μ h H v x → f v = some k → NK K H k x) : ∀ {l xs ks}, VRs K cl μ h H l xs → mapO f l = some ks → NKs K H ks xs
  | _, _, _, .nil, e => by cases e; exact .nil
  | v :: l, _, ks, .cons r rs, e => by
    unfold mapO at e
    split at e
    · rename_i d es e1 e2
      cases e
      exact .cons (hf _ _ _ r e1) (nks_of hf rs e2)
    · cases e
theorem dep_of {f : PV → Option NestedKey} {n : Nat} (hf : ∀ v k, f v = some k → k.depth ≤ n) : ∀ {l : List PV} {ks}, mapO f l = some ks → NestedKey.depthAll ks ≤ n
  | [], _, e => by cases e; exact Nat.zero_le _
  | v :: l, ks, e => by
    unfold mapO at e
    split at e
    · rename_i d es e1 e2
      cases e
      simp only [NestedKey.depthAll]
      have := hf _ _ e1
      have := dep_of hf e2
      omega
    · cases e
theorem nk_of : ∀ (n : Nat) {v x k}, VR K cl μ h H v x → nkeyN n v = some k → NK K H k x
  | 0, _, _, _, _, e => by cases e
  | n + 1, v, x, k, r, e => by
    have ih : ∀ v x k, VR K cl μ h H v x → nkeyN n v = some k → NK K H k x := fun v x k r e => nk_of n r e
    cases r with
    | non => cases e; exact .non
    | bl => cases e; exact .bl
    | int => cases e; exact .int
    | str => cases e; exact .str
    | tup f r =>
      obtain ⟨ks, e1, e2⟩ := Option.map_eq_some_iff.mp (show (mapO (nkeyN n) _).map .tup = some k from e)
      cases e2
      exact .tup (.inl f.2) (nks_of ih r e1)
    | ktup f r =>
      obtain ⟨ks, e1, e2⟩ := Option.map_eq_some_iff.mp (show (mapO (nkeyN n) _).map .tup = some k from e)
      cases e2
      exact .tup (.inr f) (nks_of ih r e1)
    | lst _ _ _ => cases e
    | scr _ _ => cases e
    | kscr _ _ => cases e
    | dct _ _ _ _ _ => cases e
    | dctN _ _ _ _ _ => cases e
    | ref _ => cases e
    | cls => cases e
    | ty => cases e
theorem nk_dep : ∀ (n : Nat) {v : PV} {k}, nkeyN n v = some k → k.depth ≤ n
  | 0, _, _, e => by cases e
  | n + 1, v, k, e => by
    cases v with
    | non => cases e; exact Nat.zero_le _
    | bl b => cases e; exact Nat.zero_le _
    | int i => cases e; exact Nat.zero_le _
    | str x => cases e; exact Nat.zero_le _
    | tup l =>
      obtain ⟨ks, e1, e2⟩ := Option.map_eq_some_iff.mp (show (mapO (nkeyN n) l).map .tup = some k from e)
      cases e2
      simp only [NestedKey.depth]
      have := dep_of (n := n) (fun v k e => nk_dep n e) e1
      omega
    | _ => cases e
/-- the key that a value is -/
theorem key_ok {v x k} (r : VR K cl μ h H v x) (e : nkey v = some k) : ∃ b, x = .ref b ∧ NK K H k x ∧ k.depth ≤ 8 := by
  unfold nkey at e
  split at e
  · obtain ⟨p, xs, rfl, _, _⟩ := tup_ok r
    exact ⟨p, rfl, nk_of _ r e, nk_dep _ e⟩
  · cases e
end

/-! ### looking up, storing -/
abbrev Es := List (NestedKey × Addr × V)
def esLook (es : Es) (k : NestedKey) : Option V := match es with
  | [] => none
  | e :: r => if e.1 = k then some e.2.2 else esLook r k
def esPut (es : Es) (k : NestedKey) (b : Addr) (v : V) : Es := match es with
  | [] => [(k, b, v)]
  | e :: r => if e.1 = k then (e.1, e.2.1, v) :: r else e :: esPut r k b v
def nLook (l : List (PV × PV)) (k : NestedKey) : Option PV := match l with
  | [] => none
  | (q, v) :: r => if nkey q = some k then some v else nLook r k
def nPut (l : List (PV × PV)) (q0 : PV) (k : NestedKey) (v : PV) : List (PV × PV) := match l with
  | [] => [(q0, v)]
  | (q, u) :: r => if nkey q = some k then (q, v) :: r else (q, u) :: nPut r q0 k v
/-- the keys' tuples stand -/
def EsOk (K : PySem.W.Frag) (H : Hp) (es : Es) : Prop := ∀ e, e ∈ es → NK K H e.1 (.ref e.2.1) ∧ e.1.depth ≤ 8
abbrev PX (p : NestedKey × Addr × V) (q : NestedKey × Addr × Value) : Prop := p.1 = q.1 ∧ p.2.1 = q.2.1 ∧ RelV p.2.2 q.2.2
theorem look_px {k : NestedKey} : ∀ {es : Es} {xs : List (NestedKey × Addr × Value)}, Paired PX es xs → match esLook es k with
    | some v => ∃ u, (atKey xs k).map (·.2) = some u ∧ RelV v u
    | none => atKey xs k = none
  | _, _, .nil => rfl
  | e :: es, x :: xs, .cons ⟨e1, e2, r⟩ rs => by
    unfold esLook
    by_cases hk : e.1 = k
    · rw [if_pos hk]
      exact ⟨x.2.2, by simp [atKey, ← e1, hk], r⟩
    · rw [if_neg hk]
      have ih := look_px (k := k) rs
      have ex : atKey (x :: xs) k = atKey xs k := by simp [atKey, ← e1, hk]
      rw [ex]
      exact ih
theorem keys_px : ∀ {es : Es} {xs : List (NestedKey × Addr × Value)}, Paired PX es xs → xs.map (·.1) = es.map (·.1)
  | _, _, .nil => rfl
  | e :: es, x :: xs, .cons ⟨e1, _, _⟩ rs => by simp [e1, keys_px rs]
theorem map_put {k : NestedKey} {v : Value} : ∀ {xs : List (NestedKey × Addr × Value)}, k ∉ xs.map (·.1) → xs.map (putAt k v) = xs
  | [], _ => rfl
  | x :: xs, h => by
    simp only [List.map_cons, List.mem_cons, not_or] at h
    have hx : putAt k v x = x := by unfold putAt; rw [if_neg (fun z => h.1 z.symm)]
    simp only [List.map_cons, hx, map_put h.2]
theorem put_px {k : NestedKey} {b : Addr} {v : V} {u : Value} (r : RelV v u) : ∀ {es : Es} {xs : List (NestedKey × Addr × Value)}, (xs.map (·.1)).Nodup → Paired PX es xs → Paired PX (esPut es k b v) (storedH xs k b u)
  | _, _, _, .nil => by
    unfold esPut
    exact .cons ⟨rfl, rfl, r⟩ .nil
  | e :: es, x :: xs, nd, .cons ⟨e1, e2, q⟩ rs => by
    simp only [List.map_cons, List.nodup_cons] at nd
    unfold esPut
    by_cases hk : e.1 = k
    · rw [if_pos hk]
      have hx : x.1 = k := e1.symm.trans hk
      have hs : storedH (x :: xs) k b u = (x.1, x.2.1, u) :: xs := by
        have hm := map_put (v := u) (show k ∉ xs.map (·.1) from hx ▸ nd.1)
        simp [storedH, atKey, hx, putAt, hm]
      rw [hs]
      exact .cons ⟨e1, e2, r⟩ rs
    · rw [if_neg hk]
      have hx : ¬ x.1 = k := fun z => hk (e1.trans z)
      have hs : storedH (x :: xs) k b u = x :: storedH xs k b u := by
        unfold storedH
        have ha : atKey (x :: xs) k = atKey xs k := by simp [atKey, hx]
        rw [ha]
        split
        · simp [putAt, hx]
        · rfl
      rw [hs]
      exact .cons ⟨e1, e2, q⟩ (put_px r nd.2 rs)
theorem esPut_len (k : NestedKey) (b : Addr) (v : V) : ∀ es : Es, (esPut es k b v).length ≤ es.length + 1
  | [] => Nat.le_refl _
  | e :: es => by
    unfold esPut
    split
    · simp
    · simp only [List.length_cons]
      have := esPut_len k b v es
      omega
theorem esPut_ok {K H} {k : NestedKey} {b : Addr} {v : V} (hk : NK K H k (.ref b)) (hd : k.depth ≤ 8) : ∀ {es : Es}, EsOk K H es → EsOk K H (esPut es k b v)
  | [], _ => fun e he => by
    unfold esPut at he
    have : e = (k, b, v) := by simpa using he
    subst this
    exact ⟨hk, hd⟩
  | x :: es, h => fun e he => by
    unfold esPut at he
    split at he
    · rcases List.mem_cons.mp he with z | z
      · subst z; exact h x List.mem_cons_self
      · exact h e (List.mem_cons_of_mem _ z)
    · rcases List.mem_cons.mp he with z | z
      · subst z; exact h e List.mem_cons_self
      · exact esPut_ok hk hd (fun e he => h e (List.mem_cons_of_mem _ he)) e z

section
variable {X : Cx} {pins : List (Addr × Obj)} {σ : St} {H : Hp} {s : Shared} {a b : Addr} {es : Es} {k : NestedKey}
/-- the dict as the library has it -/
theorem dn_at {cl : En} (hP : cl.P = X.prog) (hw : cl.w = X.w) (I : Inv X pins σ H s) (e : H a = some (dnO cl.P cl.w a es)) (ok : EsOk X.K H es) : (a == sysModules) = false ∧ es.length ≤ sizeLine ∧
    ∃ xs, Paired PX es xs ∧ s.heap.DictOfH (nestedKind X.prog X.w) a xs := by
  have x : ObjOk X.prog X.w H s.heap a (dnO cl.P cl.w a es) := I.hok a _ e
  rw [hP, hw] at x
  obtain ⟨⟨h1, h2, xs, o, ents, ep, pr, ho, hx, hd, he, nd⟩, _⟩ := x
  refine ⟨h1, h2, xs, pr, o, ents, ep, ho, hx, hd, he, fun q hq => ?_, nd⟩
  obtain ⟨j, hj⟩ := List.getElem?_of_mem hq
  have key : ∀ {es : Es} {xs : List (NestedKey × Addr × Value)} {j : Nat} {q}, Paired PX es xs → xs[j]? = some q → ∃ p, p ∈ es ∧ PX p q := by
    intro es xs j q pr
    induction pr generalizing j with
    | nil => intro h; simp at h
    | cons r rs ih =>
      intro h
      cases j with
      | zero => simp at h; subst h; exact ⟨_, List.mem_cons_self, r⟩
      | succ j =>
        obtain ⟨p, hp, r⟩ := ih (by simpa using h)
        exact ⟨p, List.mem_cons_of_mem _ hp, r⟩
  obtain ⟨p, hp, e1, e2, _⟩ := key pr hj
  obtain ⟨n, d⟩ := ok p hp
  rw [← e1, ← e2]
  exact ⟨NK.is I _ _ _ n rfl, d⟩
theorem dn_room {A : Around} (hu : A.units + 16 < cLine) {P : Program} {w : World} : (nestedKind P w).room A.in1 := by
  show A.in1.units + 8 < cLine
  have : A.in1.units = A.units + 1 := rfl
  omega
end
end TR

set_option Elab.async false
set_option linter.all false
set_option maxRecDepth 100000
set_option maxHeartbeats 4000000
namespace TR
open PySem PySem.Spec L2
open PyProof.Rows (envOfC IsTup)

/-- what is asked of a dict with tuple keys -/
structure DnAt (K : PySem.W.Frag) (cl : En) (H : Hp) (a b : Addr) (es : Es) (k : NestedKey) : Prop where
  at_ : H a = some (dnO cl.P cl.w a es)
  ok : EsOk K H es
  key : NK K H k (.ref b)
  dep : k.depth ≤ 8
def rNGet (K : PySem.W.Frag) (cl : En) : R2 := fun x y H Q => ∃ a b es k v, x = .ref a ∧ y = .ref b ∧ DnAt K cl H a b es k ∧ esLook es k = some v ∧ Q v H
def rNIn (K : PySem.W.Frag) (cl : En) (neg : Bool) : R2 := fun y x H Q => ∃ a b es k, x = .ref a ∧ y = .ref b ∧ DnAt K cl H a b es k ∧ Q (.bl (if neg then !(esLook es k).isSome else (esLook es k).isSome)) H
/-- the program and the world are those of the context -/
structure Same2 (X : Cx) (cl : En) : Prop where
  P : cl.P = X.prog
  w : cl.w = X.w
section
variable {X : Cx} {cl : En} {o i e : Expr} {to ti tv : TE} {pos pos' : Pos} {pins : List (Addr × Obj)} {σ : St} {H : Hp} {s : Shared} {a b : Addr} {es : Es} {k : NestedKey}
theorem dn_is (E : Same2 X cl) (I : Inv X pins σ H s) (d : DnAt X.K cl H a b es k) : (nestedKind X.prog X.w).is s.heap k b := ⟨NK.is I _ _ _ d.key rfl, d.dep⟩
theorem look_some {xs : List (NestedKey × Addr × Value)} (pr : Paired PX es xs) : (atKey xs k).isSome = (esLook es k).isSome := by
  have m := look_px (k := k) pr
  cases e : esLook es k with
  | none => rw [e] at m; simp [m]
  | some v =>
    rw [e] at m
    obtain ⟨u, h1, _⟩ := m
    cases h2 : atKey xs k with
    | none => rw [h2] at h1; cases h1
    | some p => rfl
theorem pe_nget (E : Same2 X cl) (hu : X.A.units + 16 < cLine) (po : PE X o to) (pi : PE X i ti) (hs : NoSl i) : PE X (.Subscript o i pos) (tOp (rNGet X.K cl) to ti) := by
  refine ⟨fun pins s σ H Q I h => ?_⟩
  refine subD_of PySem.F.slot_dict_getitem.lookup hs (thn (po.run pins s σ H _ I h) fun u s1 ⟨x, H1, I1, rx, q1⟩ => thn (pi.run pins s1 σ H1 _ I1 q1) fun iv s2 ⟨y, H2, I2, ry, q2⟩ => ?_)
  obtain ⟨a, b, es, k, v, ex, ey, d, lk, q2⟩ := q2
  subst ex ey
  cases rx
  cases ry
  obtain ⟨h1, h2, xs, pr, hm⟩ := dn_at E.P E.w I2 d.at_ d.ok
  refine ⟨hm.typeIs, ?_⟩
  have m := look_px (k := k) pr
  rw [lk] at m
  obtain ⟨u, eu, ru⟩ := m
  obtain ⟨p, hp, rfl⟩ := Option.map_eq_some_iff.mp eu
  exact wpAny_getItem_heap (dn_room hu) (dn_is E I2 d) hm hp ⟨v, H2, I2.tok _, ru, q2⟩
theorem pc_nin (E : Same2 X cl) (hu : X.A.units + 16 < cLine) (pi : PE X i ti) (po : PE X o to) : PC X .In i o (tOp (rNIn X.K cl false) ti to) := by
  refine ⟨fun pins s σ H Q I h => ?_⟩
  refine thn (pi.run pins s σ H _ I h) fun iv s1 ⟨y, H1, I1, ry, q1⟩ => thn (po.run pins s1 σ H1 _ I1 q1) fun u s2 ⟨x, H2, I2, rx, q2⟩ => ?_
  obtain ⟨a, b, es, k, ex, ey, d, q2⟩ := q2
  subst ex ey
  cases rx
  cases ry
  obtain ⟨h1, h2, xs, pr, hm⟩ := dn_at E.P E.w I2 d.at_ d.ok
  refine wpAny_in_heap (dn_room hu) (dn_is E I2 d) h1 hm ?_
  rw [look_some pr]
  exact ⟨.bl _, H2, I2.tok _, rfl, q2⟩
theorem pc_nnotin (E : Same2 X cl) (hu : X.A.units + 16 < cLine) (pi : PE X i ti) (po : PE X o to) : PC X .NotIn i o (tOp (rNIn X.K cl true) ti to) := by
  refine ⟨fun pins s σ H Q I h => ?_⟩
  refine thn (pi.run pins s σ H _ I h) fun iv s1 ⟨y, H1, I1, ry, q1⟩ => thn (po.run pins s1 σ H1 _ I1 q1) fun u s2 ⟨x, H2, I2, rx, q2⟩ => ?_
  obtain ⟨a, b, es, k, ex, ey, d, q2⟩ := q2
  subst ex ey
  cases rx
  cases ry
  obtain ⟨h1, h2, xs, pr, hm⟩ := dn_at E.P E.w I2 d.at_ d.ok
  refine notIn_keyed (dn_room hu) (dn_is E I2 d) h1 ⟨xs, hm, rfl⟩ ?_
  rw [valueAt_pairsH, Option.isSome_map, look_some pr]
  exact ⟨.bl _, H2, I2.tok _, rfl, q2⟩
theorem dn_new {P : Program} {w : World} {H' : Hp} {h' : Heap} {es : Es} {xs : List (NestedKey × Addr × Value)} (z : es.length ≤ sizeLine) (hd : (a == sysModules) = false) (pr : Paired PX es xs) (dd : h'.DictOfH (nestedKind P w) a xs) :
    ObjOk P w H' h' a (dnO P w a es) := by
  obtain ⟨o, ents, ep, ho, hx, hdd, he, hk, nd⟩ := dd
  refine ⟨⟨hd, z, xs, o, ents, ep, pr, ho, hx, hdd, he, nd⟩, ⟨o, ho⟩, fun h1 h2 p keep => ?_⟩
  obtain ⟨q1, q2, xs', o', ents', ep', r1, r2, r3, r4, r5, r6⟩ := p
  exact ⟨q1, q2, xs', o', ents', ep', r1, keep _ r2, r3, r4, r5, r6⟩
theorem n_setItem (E : Same2 X cl) {v : V} {r : Value} {A : Around} {EE : Value → Shared → Prop} {Q : Unit → Shared → Prop} (hu : A.units + 16 < cLine) (I : Inv X pins σ H s) (d : DnAt X.K cl H a b es k) (rv : RelV v r) (hz : es.length < sizeLine)
    (h : ∀ s', Inv X pins σ (upd H a (dnO cl.P cl.w a (esPut es k b v))) s' → Q () s') : wpAny (model X.prog X.w) A (setItem (.ref a) (.ref b) r) Q EE s := by
  obtain ⟨h1, h2, xs, pr, hm⟩ := dn_at E.P E.w I d.at_ d.ok
  have hl : xs.length = es.length := (Paired.length pr).symm
  refine wpAny_setItem_heap (hsz := by omega) (dn_room hu) (dn_is E I d) hm fun h' hm' hs => ?_
  have nd : (xs.map (·.1)).Nodup := by
    obtain ⟨_, _, _, _, _, _, _, _, nd⟩ := hm
    exact nd
  have he : ∃ q, h'.get? a = some q := by
    obtain ⟨q, _, _, hq, _⟩ := hm'
    exact ⟨q, hq⟩
  refine h _ (d_write (ob := dnO cl.P cl.w a (esPut es k b v)) I (by rw [d.at_]; exact trivial) hs he ?_)
  rw [E.P, E.w]
  have := esPut_len k b v es
  exact dn_new (by omega) h1 (put_px rv nd pr) hm'
/-- d[(..)] = e -/
def sNPut (K : PySem.W.Frag) (cl : En) (td ty tv : TE) : TS := fun D σ H => tv σ H fun v H1 => td σ H1 fun x H2 => ty σ H2 fun y H3 => ∃ a b es k, x = .ref a ∧ y = .ref b ∧ DnAt K cl H3 a b es k ∧ es.length < sizeLine ∧ D.nx σ (upd H3 a (dnO cl.P cl.w a (esPut es k b v)))
theorem ps_nput (E : Same2 X cl) (hu : X.A.units + 16 < cLine) (ho : PE X o to) (hi : PE X i ti) (hv : PE X e tv) (hs : swapsWith e (some (.Subscript o i pos')) pos.line X.env = pure false) :
    PS X (.Assign [.Subscript o i pos'] e pos) (sNPut X.K cl to ti tv) := by
  refine ⟨fun pins s σ H D I h => ?_⟩
  refine wpAny_Assign_Subscript (thn (hv.run pins s σ H _ I h) fun r s1 ⟨v, H1, I1, rv, q1⟩ => thn (ho.run pins s1 σ H1 _ I1 q1) fun u s2 ⟨x, H2, I2, rx, q2⟩ => thn (hi.run pins s2 σ H2 _ I2 q2) fun iv s3 ⟨y, H3, I3, ry, a, b, es, k, ex, ey, d, hz, q3⟩ => ?_) hs
  subst ex ey
  cases rx
  cases ry
  exact n_setItem E hu I3 d rv hz fun s4 I4 => ⟨σ, _, I4, q3⟩
/-- {} -/
def tNNew (cl : En) : TE := fun _ H Q => ∀ p, H p = none → Q (.ref p) (upd H p (dnO cl.P cl.w p []))
theorem pe_nnew (E : Same2 X cl) : PE X (.Dict [] [] pos) (tNNew cl) := ⟨fun pins s σ H Q I h => by
  have new : ObjOk X.prog X.w (upd H s.heap.objs.size (dnO cl.P cl.w s.heap.objs.size [])) (s.heap.push { cls := .type "dict", data := .dict #[] }) s.heap.objs.size (dnO cl.P cl.w s.heap.objs.size []) := by
    rw [E.P, E.w]
    exact dn_new (Nat.zero_le _) (beq_eq_false_iff_ne.mpr (Ne.symm (Nat.ne_of_lt I.big))) .nil (Heap.DictOfH.new s.heap)
  exact wpAny_Dict_empty ⟨.ref s.heap.objs.size, _, I.laid (t' := s.toks) (fun _ _ q => Heap.get?_push_of_some _ q) (Nat.le_refl _) new, rfl, h _ (I.hok.fresh (Nat.le_refl _))⟩⟩
end

/-! ### as runs -/
def asN (v : PV) (h : Hh) : Option (List (PV × PV)) := match v with
  | .dcn l => some l
  | .ref i => match h[i]? with
    | some (.dcn l) => some l
    | _ => none
  | _ => none
def gNGet (a b : PV) (h : Hh) : Rs PV := match asN a h, nkey b with
  | some l, some k => match nLook l k with
    | some v => .ok v h
    | none => .bad
  | _, _ => .bad
def gNIn (neg : Bool) (b a : PV) (h : Hh) : Rs PV := match asN a h, nkey b with
  | some l, some k => .ok (.bl (if neg then !(nLook l k).isSome else (nLook l k).isSome)) h
  | _, _ => .bad
section
variable {K : PySem.W.Frag} {cl : En} {μ : Mp} {h : Hh} {H : Hp}
theorem nlook_ok {k : NestedKey} : ∀ {l : List (PV × PV)} {es : Es}, l.map (fun q => nkey q.1) = es.map (fun q => some q.1) → VRs K cl μ h H (l.map (·.2)) (es.map (·.2.2)) → match nLook l k with
    | some v => ∃ x, esLook es k = some x ∧ VR K cl μ h H v x
    | none => esLook es k = none
  | [], [], _, _ => rfl
  | (q, v) :: l, (k', b, x) :: es, e, r => by
    simp only [List.map_cons, List.cons.injEq] at e
    obtain ⟨e1, e2⟩ := e
    simp only [List.map_cons] at r
    cases r with
    | cons a b =>
      unfold nLook esLook
      rw [e1]
      by_cases hk : k' = k
      · subst hk
        simp only [if_true]
        exact ⟨x, rfl, a⟩
      · rw [if_neg (fun z => hk (Option.some.inj z)), if_neg hk]
        exact nlook_ok e2 b
  | [], _ :: _, e, _ => by simp at e
  | _ :: _, [], e, _ => by simp at e
theorem nput_ok {k : NestedKey} {q0 v : PV} {b : Addr} {x : V} (hk : nkey q0 = some k) (rq : VR K cl μ h H q0 (.ref b)) (rv : VR K cl μ h H v x) : ∀ {l : List (PV × PV)} {es : Es}, l.map (fun q => nkey q.1) = es.map (fun q => some q.1) → VRs K cl μ h H (l.map (·.1)) (es.map fun q => V.ref q.2.1) → VRs K cl μ h H (l.map (·.2)) (es.map (·.2.2)) →
    (nPut l q0 k v).map (fun q => nkey q.1) = (esPut es k b x).map (fun q => some q.1) ∧ VRs K cl μ h H ((nPut l q0 k v).map (·.1)) ((esPut es k b x).map fun q => V.ref q.2.1) ∧ VRs K cl μ h H ((nPut l q0 k v).map (·.2)) ((esPut es k b x).map (·.2.2))
  | [], [], _, _, _ => by
    unfold nPut esPut
    exact ⟨by simp [hk], .cons rq .nil, .cons rv .nil⟩
  | (q, u) :: l, (k', b', y) :: es, e, r1, r2 => by
    simp only [List.map_cons, List.cons.injEq] at e
    obtain ⟨e1, e2⟩ := e
    simp only [List.map_cons] at r1 r2
    cases r1 with
    | cons a1 b1 =>
      cases r2 with
      | cons a2 b2 =>
        unfold nPut esPut
        rw [e1]
        by_cases hk' : k' = k
        · subst hk'
          simp only [if_true]
          exact ⟨by simp [e1, e2], .cons a1 b1, .cons rv b2⟩
        · rw [if_neg (fun z => hk' (Option.some.inj z)), if_neg hk']
          obtain ⟨i1, i2, i3⟩ := nput_ok hk rq rv e2 b1 b2
          exact ⟨by simp [e1, i1], .cons a1 i2, .cons a2 i3⟩
  | [], _ :: _, e, _, _ => by simp at e
  | _ :: _, [], e, _, _ => by simp at e
theorem esok_of : ∀ {l : List (PV × PV)} {es : Es}, l.map (fun q => nkey q.1) = es.map (fun q => some q.1) → VRs K cl μ h H (l.map (·.1)) (es.map fun q => V.ref q.2.1) → EsOk K H es
  | [], [], _, _ => fun e he => by cases he
  | (q, u) :: l, (k', b', y) :: es, e, r1 => fun z hz => by
    simp only [List.map_cons, List.cons.injEq] at e
    obtain ⟨e1, e2⟩ := e
    simp only [List.map_cons] at r1
    cases r1 with
    | cons a1 b1 =>
      rcases List.mem_cons.mp hz with hz | hz
      · subst hz
        obtain ⟨b, eb, n, d⟩ := key_ok a1 e1
        exact ⟨n, d⟩
      · exact esok_of e2 b1 z hz
  | [], _ :: _, e, _ => by simp at e
  | _ :: _, [], e, _ => by simp at e
theorem asN_ok {v x l} (S : Sim K cl μ h H) (r : VR K cl μ h H v x) (e : asN v h = some l) : ∃ a es, x = .ref a ∧ H a = some (dnO cl.P cl.w a es) ∧ l.map (fun q => nkey q.1) = es.map (fun q => some q.1) ∧ VRs K cl μ h H (l.map (·.1)) (es.map fun q => V.ref q.2.1) ∧ VRs K cl μ h H (l.map (·.2)) (es.map (·.2.2)) := by
  unfold asN at e
  cases r with
  | dctN n f a b r => cases e; exact ⟨_, _, rfl, f, a, b, r⟩
  | ref q =>
    dsimp only at e
    split at e
    · rename_i l' e1
      cases e
      cases S.at q e1 with
      | dN f a b r => exact ⟨_, _, rfl, f, a, b, r⟩
    · cases e
  | _ => cases e
theorem v_nget : VOp K cl gNGet (rNGet K cl) := by
  intro μ h H a b A B W σ Q S ra rb k
  unfold gNGet at k
  split at k
  · rename_i l kk e1 e2
    obtain ⟨p, es, rfl, hp, ek, r1, r2⟩ := asN_ok S ra e1
    obtain ⟨q, rfl, n, d⟩ := key_ok rb e2
    have m := nlook_ok (k := kk) ek r2
    cases e : nLook l kk with
    | none => rw [e] at k; exact k.elim
    | some v =>
      rw [e] at k m
      obtain ⟨x, lk, rx⟩ := m
      exact ⟨p, q, es, kk, x, rfl, rfl, ⟨hp, esok_of ek r1, n, d⟩, lk, KO.now (R := rV K cl) S rx k⟩
  · exact k.elim
theorem v_nin {neg : Bool} : VOp K cl (gNIn neg) (rNIn K cl neg) := by
  intro μ h H b a B A W σ Q S rb ra k
  unfold gNIn at k
  split at k
  · rename_i l kk e1 e2
    obtain ⟨p, es, rfl, hp, ek, r1, r2⟩ := asN_ok S ra e1
    obtain ⟨q, rfl, n, d⟩ := key_ok rb e2
    have m := nlook_ok (k := kk) ek r2
    have eo : (esLook es kk).isSome = (nLook l kk).isSome := by
      cases e : nLook l kk with
      | none => rw [e] at m; rw [m]; rfl
      | some v =>
        rw [e] at m
        obtain ⟨x, lk, _⟩ := m
        rw [lk]; rfl
    refine ⟨p, q, es, kk, rfl, rfl, ⟨hp, esok_of ek r1, n, d⟩, ?_⟩
    rw [eo]
    exact KO.now (R := rV K cl) S .bl k
  · exact k.elim
end
/-- {}: a dict for tuple keys, one for ints and texts -/
def xNNew : Ex := fun _ h => .ok (.ref h.length) (h ++ [.dcn []])
def xKNew : Ex := fun _ h => .ok (.ref h.length) (h ++ [.dct []])
def sNPutR (fo fi fv : Ex) : Sx := fun st h => (fv st h).toS st fun v h1 => (fo st h1).toS st fun o h2 => (fi st h2).toS st fun i h3 => match o, nkey i with
  | .ref n, some k => match h3[n]? with
    | some (.dcn l) => if l.length < sizeLine then .nx st (h3.set n (.dcn (nPut l i k v))) else .bad
    | _ => .bad
  | _, _ => .bad
section
variable {X : Cx} {cl : En} {W : WX} {o i e : Expr} {f1 f2 fo fi fv : Ex} {pos pos' : Pos}
theorem e_nget (E : Same2 X cl) (hu : X.A.units + 16 < cLine) (p : PE X o (teOf X.K cl W f1)) (q : PE X i (teOf X.K cl W f2)) (hs : NoSl i) : PE X (.Subscript o i pos) (teOf X.K cl W (xOp gNGet f1 f2)) :=
  PE.w (pe_nget E hu p q hs) fun σ H Q ⟨μ, st, h, S, L, k⟩ => ⟨μ, st, h, S, L, KO.seq k fun μ1 h1 H1 a x g1 S1 r1 k1 =>
    ⟨μ1, st, h1, S1, L.grow g1.toGrw, KO.seq k1 fun μ2 h2 H2 b y g2 S2 r2 k2 => v_nget _ _ _ _ _ _ _ W σ Q S2 (VR.grow g2.toGrw r1) r2 k2⟩⟩
theorem b_nin (E : Same2 X cl) (hu : X.A.units + 16 < cLine) (p : PE X i (teOf X.K cl W f1)) (q : PE X o (teOf X.K cl W f2)) (h1 : behindInMarks .In o = false := by rfl) : PT X (.Compare i [.In] [o] pos) (ttOf X.K cl W (bOf (xOp (gNIn false) f1 f2))) :=
  b_pc (r := rNIn X.K cl false) (pc_nin E hu p q) v_nin h1
theorem b_nnotin (E : Same2 X cl) (hu : X.A.units + 16 < cLine) (p : PE X i (teOf X.K cl W f1)) (q : PE X o (teOf X.K cl W f2)) (h1 : behindInMarks .NotIn o = false := by rfl) : PT X (.Compare i [.NotIn] [o] pos) (ttOf X.K cl W (bOf (xOp (gNIn true) f1 f2))) :=
  b_pc (r := rNIn X.K cl true) (pc_nnotin E hu p q) v_nin h1
theorem id_ref {μ : Mp} {h : Hh} {p : Addr} (hl : μ.ids.length = h.length) : (μ.add p).ids[h.length]? = some p := by
  show (μ.ids ++ [p])[h.length]? = some p
  rw [← hl, List.getElem?_append_right (Nat.le_refl _)]; simp
theorem e_nnew (E : Same2 X cl) : PE X (.Dict [] [] pos) (teOf X.K cl W xNNew) :=
  PE.w (pe_nnew E) fun σ H Q ⟨μ, st, h, S, L, k⟩ p hp => by
    have hk : ∀ q u, H q = some u → upd H p (dnO cl.P cl.w p []) q = some u := fun q u e => by rw [upd_ne (ne_of_none e hp)]; exact e
    exact k (μ.add p) _ (.ref p) (grow_id S.len hp hk) (S.id hp hk (.dN upd_same rfl .nil .nil)) (.ref (id_ref S.len))
theorem e_knew : PE X (.Dict [] [] pos) (teOf X.K cl W xKNew) :=
  PE.w pe_dnewK fun σ H Q ⟨μ, st, h, S, L, k⟩ p hp => by
    have hk : ∀ q u, H q = some u → upd H p (.dK []) q = some u := fun q u e => by rw [upd_ne (ne_of_none e hp)]; exact e
    exact k (μ.add p) _ (.ref p) (grow_id S.len hp hk) (S.id hp hk (.dK upd_same rfl .nil .nil)) (.ref (id_ref S.len))
theorem s_nput (E : Same2 X cl) (hu : X.A.units + 16 < cLine) (po : PE X o (teOf X.K cl W fo)) (pi : PE X i (teOf X.K cl W fi)) (pv : PE X e (teOf X.K cl W fv)) (hs : swapsWith e (some (.Subscript o i pos')) pos.line X.env = pure false := by rfl) :
    PS X (.Assign [.Subscript o i pos'] e pos) (tsOf X.K cl W (sNPutR fo fi fv)) :=
  PS.w (ps_nput E hu po pi pv hs) fun D σ H ⟨μ, st, h, S, L, k⟩ => ⟨μ, st, h, S, L, SO.seq L k fun μ1 h1 H1 v x g1 S1 L1 r1 k1 => ⟨μ1, st, h1, S1, L1, SO.seq L1 k1 fun μ2 h2 H2 ov y g2 S2 L2 r2 k2 =>
    ⟨μ2, st, h2, S2, L2, SO.seq L2 k2 fun μ3 h3 H3 iv z g3 S3 L3 r3 k3 => by
      have r2' := VR.grow g3.toGrw r2
      have r1' := VR.grow (g2.trans g3).toGrw r1
      split at k3
      · rename_i n kk ek
        obtain ⟨b, rfl, nk, dk⟩ := key_ok r3 ek
        cases r2' with
        | ref q =>
          rename_i a
          split at k3
          · rename_i l e1
            cases S3.at q e1 with
            | dN hp e2 rk rl =>
              rename_i es
              split at k3
              · rename_i hl
                have hlen : l.length = es.length := by simpa using congrArg List.length e2
                have hk : ∀ p, p ≠ a → upd H3 a (dnO cl.P cl.w a (esPut es kk b x)) p = H3 p := fun p hq => upd_ne hq
                have gw := grow_set (ob := .dcn (nPut l iv kk v)) q e1 (by intro z; cases z) hk (S3.nres q)
                obtain ⟨i1, i2, i3⟩ := nput_ok ek r3 r1' e2 rk rl
                refine ⟨a, b, es, kk, rfl, rfl, ⟨hp, esok_of e2 rk, nk, dk⟩, by rw [← hlen]; exact hl, ?_⟩
                exact k3 μ3 _ σ gw (S3.set q e1 (by intro z; cases z) hk (.dN upd_same i1 (VRs.grow gw.toGrw i2) (VRs.grow gw.toGrw i3))) (L3.grow gw.toGrw)
              · exact k3.elim
          · exact k3.elim
      · exact k3.elim⟩⟩⟩
end
end TR

set_option Elab.async false
set_option linter.all false
set_option maxRecDepth 100000
set_option maxHeartbeats 4000000
namespace TR
open PySem PySem.Spec L2
open PyProof.Rows (envOfC)

/-! ### storing in a dict with int and text keys -/
section
variable {K : PySem.W.Frag} {cl : En} {μ : Mp} {h : Hh} {H : Hp}
theorem putK_nil {k : Key} {x : V} : putK ([] : List (Key × V)) k x = [(k, x)] := rfl
theorem putK_hit {k : Key} {p : Key × V} {r : List (Key × V)} {x : V} (e : p.1 = k) (n : p.1 ∉ r.map (·.1)) : putK (p :: r) k x = (p.1, x) :: r := by
  have hm : ∀ r : List (Key × V), k ∉ r.map (·.1) → r.map (fun kv => if kv.1 = k then (kv.1, x) else kv) = r := by
    intro r
    induction r with
    | nil => intro _; rfl
    | cons q r ih =>
      intro hn
      simp only [List.map_cons, List.mem_cons, not_or] at hn
      rw [List.map_cons, ih hn.2, if_neg fun z => hn.1 z.symm]
  unfold putK
  rw [if_pos (by simp [e]), List.map_cons, if_pos e, hm r (e ▸ n)]
theorem putK_miss {k : Key} {p : Key × V} {r : List (Key × V)} {x : V} (e : ¬ p.1 = k) : putK (p :: r) k x = p :: putK r k x := by
  unfold putK
  rw [List.any_cons, decide_eq_false e, Bool.false_or]
  split
  · rw [List.map_cons, if_neg e]
  · rfl
theorem putK_mem {k j : Key} {x : V} : ∀ {r : List (Key × V)}, (r.map (·.1)).Nodup → j ∈ (putK r k x).map (·.1) → j = k ∨ j ∈ r.map (·.1)
  | [], _, m => by rw [putK_nil] at m; simp at m; exact .inl m
  | p :: r, nd, m => by
    simp only [List.map_cons, List.nodup_cons] at nd
    by_cases e : p.1 = k
    · rw [putK_hit e nd.1] at m
      exact .inr m
    · rw [putK_miss e, List.map_cons] at m
      rcases List.mem_cons.mp m with m | m
      · exact .inr (by rw [m]; exact List.mem_cons_self)
      · rcases putK_mem nd.2 m with z | z
        · exact .inl z
        · exact .inr (List.mem_cons_of_mem _ z)
theorem putK_nd {k : Key} {x : V} : ∀ {r : List (Key × V)}, (r.map (·.1)).Nodup → ((putK r k x).map (·.1)).Nodup
  | [], _ => by rw [putK_nil]; simp
  | p :: r, nd => by
    have nd' := nd
    simp only [List.map_cons, List.nodup_cons] at nd
    by_cases e : p.1 = k
    · rw [putK_hit e nd.1]
      exact nd'
    · rw [putK_miss e, List.map_cons, List.nodup_cons]
      refine ⟨fun m => ?_, putK_nd nd.2⟩
      rcases putK_mem nd.2 m with z | z
      · exact e z
      · exact nd.1 z
theorem dput_ok {k : Key} {v : PV} {x : V} (rv : VR K cl μ h H v x) : ∀ {l : List (PV × PV)} {kvs : List (Key × V)}, l.map (fun q => keyV q.1) = kvs.map (fun q => some q.1) → (kvs.map (·.1)).Nodup → VRs K cl μ h H (l.map (·.2)) (kvs.map (·.2)) →
    (dPut l k v).map (fun q => keyV q.1) = (putK kvs k x).map (fun q => some q.1) ∧ VRs K cl μ h H ((dPut l k v).map (·.2)) ((putK kvs k x).map (·.2))
  | [], [], _, _, _ => by
    rw [putK_nil]
    unfold dPut
    refine ⟨?_, .cons rv .nil⟩
    cases k <;> rfl
  | (q, u) :: l, (k', y) :: kvs, e, nd, r => by
    simp only [List.map_cons, List.cons.injEq] at e
    obtain ⟨e1, e2⟩ := e
    simp only [List.map_cons, List.nodup_cons] at nd
    simp only [List.map_cons] at r
    cases r with
    | cons a b =>
      unfold dPut
      rw [e1]
      by_cases hk : k' = k
      · rw [putK_hit hk nd.1]
        subst hk
        simp only [if_true]
        exact ⟨by simp [e1, e2], .cons rv b⟩
      · rw [putK_miss hk, if_neg (fun z => hk (Option.some.inj z))]
        obtain ⟨i1, i2⟩ := dput_ok rv e2 nd.2 b
        exact ⟨by simp [e1, i1], .cons a i2⟩
  | [], _ :: _, e, _, _ => by simp at e
  | _ :: _, [], e, _, _ => by simp at e
theorem dPut_len {k : Key} {v : PV} : ∀ l : List (PV × PV), (dPut l k v).length ≤ l.length + 1
  | [] => Nat.le_refl _
  | (q, u) :: r => by
    unfold dPut
    split
    · simp
    · simp only [List.length_cons]
      have := dPut_len (k := k) (v := v) r
      omega
end
/-- d[k] = e -/
def sDPutR (fo fi fv : Ex) : Sx := fun st h => (fv st h).toS st fun v h1 => (fo st h1).toS st fun o h2 => (fi st h2).toS st fun i h3 => match o, keyV i with
  | .ref n, some k => match h3[n]? with
    | some (.dct l) => if l.length < sizeLine then .nx st (h3.set n (.dct (dPut l k v))) else .bad
    | _ => .bad
  | _, _ => .bad
section
variable {X : Cx} {cl : En} {W : WX} {o i e : Expr} {fo fi fv : Ex} {pos pos' : Pos}
theorem s_dput (hu : X.A.units + 1 < cLine) (po : PE X o (teOf X.K cl W fo)) (pi : PE X i (teOf X.K cl W fi)) (pv : PE X e (teOf X.K cl W fv)) (hs : swapsWith e (some (.Subscript o i pos')) pos.line X.env = pure false := by rfl) :
    PS X (.Assign [.Subscript o i pos'] e pos) (tsOf X.K cl W (sDPutR fo fi fv)) :=
  PS.w (ps_dput hu po pi pv hs) fun D σ H ⟨μ, st, h, S, L, k⟩ => ⟨μ, st, h, S, L, SO.seq L k fun μ1 h1 H1 v x g1 S1 L1 r1 k1 => ⟨μ1, st, h1, S1, L1, SO.seq L1 k1 fun μ2 h2 H2 ov y g2 S2 L2 r2 k2 =>
    ⟨μ2, st, h2, S2, L2, SO.seq L2 k2 fun μ3 h3 H3 iv z g3 S3 L3 r3 k3 => by
      have r2' := VR.grow g3.toGrw r2
      have r1' := VR.grow (g2.trans g3).toGrw r1
      split at k3
      · rename_i n kk ek
        have ez := keyV_ok r3 ek
        subst ez
        cases r2' with
        | ref q =>
          rename_i a
          split at k3
          · rename_i l e1
            cases S3.at q e1 with
            | dK hp e2 nd rl =>
              rename_i kvs
              split at k3
              · rename_i hl
                have hlen : l.length = kvs.length := by simpa using congrArg List.length e2
                have hk : ∀ p, p ≠ a → upd H3 a (.dK (putK kvs kk x)) p = H3 p := fun p hq => upd_ne hq
                have gw := grow_set (ob := .dct (dPut l kk v)) q e1 (by intro z; cases z) hk (S3.nres q)
                obtain ⟨i1, i2⟩ := dput_ok r1' e2 nd rl
                refine ⟨a, _, rfl, DPut.k hp (by rw [← hlen]; exact hl), ?_⟩
                exact k3 μ3 _ σ gw (S3.set q e1 (by intro z; cases z) hk (.dK upd_same i1 (putK_nd nd) (VRs.grow gw.toGrw i2))) (L3.grow gw.toGrw)
              · exact k3.elim
          · exact k3.elim
      · exact k3.elim⟩⟩⟩
end
end TR

set_option Elab.async false
set_option linter.all false
set_option maxRecDepth 100000
set_option maxHeartbeats 4000000
namespace TR
open PySem PySem.Spec L2
open PyProof.Rows (envOfC)

/-! ### what was being made is given an id -/
section
variable {K : PySem.W.Frag} {cl : En} {μ μ' : Mp} {h h' : Hh} {H H' : Hp} {D : Addr}
def Mp.give (μ : Mp) (D : Addr) (r : List Addr) : Mp := ⟨μ.ids ++ [D], r⟩
theorem grw_give {ob : Ob} (hl : μ'.ids.length = h'.length) (inD : D ∈ μ'.res) {r : List Addr} (hr : ∀ a, a ∈ r → a ∈ μ'.res) : Grw μ' h' H (μ'.give D r) (h' ++ [ob]) H := by
  refine ⟨fun i a e => ?_, fun a l => ?_, fun _ _ e _ => e⟩
  · show (μ'.ids ++ [D])[i]? = some a
    rw [List.getElem?_append_left (List.getElem?_eq_some_iff.mp e).1]
    exact e
  · rcases l with l | ⟨i, o, e1, e2, n⟩
    · exact .inl (.inl (hr a l))
    · replace e1 : (μ'.ids ++ [D])[i]? = some a := e1
      by_cases hi : i < μ'.ids.length
      · rw [List.getElem?_append_left hi] at e1
        rw [List.getElem?_append_left (by omega)] at e2
        exact .inl (.inr ⟨i, o, e1, e2, n⟩)
      · rw [List.getElem?_append_right (by omega)] at e1
        have h1 : i - μ'.ids.length = 0 := by
          have := (List.getElem?_eq_some_iff.mp e1).1
          simp at this; omega
        rw [h1] at e1
        simp at e1
        subst e1
        exact .inl (.inl inD)
theorem Sim.give {ob : Ob} (S : Sim K cl μ' h' H) (inD : D ∈ μ'.res) {r : List Addr} (hr : ∀ a, a ∈ r → a ∈ μ'.res) (nD : D ∉ r) (ho : OR K cl (μ'.give D r) (h' ++ [ob]) H D ob) : Sim K cl (μ'.give D r) (h' ++ [ob]) H := by
  have g := grw_give (H := H) (ob := ob) S.len inD hr
  have dn := (S.rs D inD).2
  refine ⟨by simp [Mp.give, S.len], ?_, fun i a o e1 e2 => ?_, fun a ha => ?_⟩
  · show (μ'.ids ++ [D]).Nodup
    rw [List.nodup_append]
    refine ⟨S.nd, by simp, fun a ha b hb z => ?_⟩
    have : b = D := by simpa using hb
    subst this z
    exact dn ha
  · replace e1 : (μ'.ids ++ [D])[i]? = some a := e1
    by_cases hi : i < μ'.ids.length
    · rw [List.getElem?_append_left hi] at e1
      rw [List.getElem?_append_left (by have := S.len; omega)] at e2
      exact (S.ob i a o e1 e2).grow g rfl
    · rw [List.getElem?_append_right (by omega)] at e1
      rw [List.getElem?_append_right (by have := S.len; omega)] at e2
      have h1 : i - μ'.ids.length = 0 := by
        have := (List.getElem?_eq_some_iff.mp e1).1
        simp at this; omega
      have h2 : i - h'.length = 0 := by have := S.len; omega
      rw [h1] at e1
      rw [h2] at e2
      simp at e1 e2
      subst e1 e2
      exact ho
  · obtain ⟨x, n⟩ := S.rs a (hr a ha)
    refine ⟨x, ?_⟩
    show a ∉ μ'.ids ++ [D]
    intro m
    rcases List.mem_append.mp m with m | m
    · exact n m
    · have : a = D := by simpa using m
      subst this
      exact nD ha
theorem give_ref {r : List Addr} (hl : μ'.ids.length = h'.length) : (μ'.give D r).ids[h'.length]? = some D := by
  show (μ'.ids ++ [D])[h'.length]? = some D
  rw [← hl, List.getElem?_append_right (Nat.le_refl _)]; simp
end

/-! ### dict comprehensions, keys ints or texts -/
def dcL (t : Tg) (ft : Eb) (fk fe : Ex) (st : Sl) : List PV → List (PV × PV) → Hh → Rs (List (PV × PV))
  | [], acc, h => .ok acc h
  | v :: r, acc, h => match asg t v st with
    | none => .bad
    | some st1 => match ft st1 h with
      | .ok true h1 => match fk st1 h1 with
        | .ok q h2 => match fe st1 h2, keyV q with
          | .ok y h3, some k => if acc.length < sizeLine then dcL t ft fk fe st r (dPut acc k y) h3 else .bad
          | _, _ => .bad
        | _ => .bad
      | .ok false h1 => dcL t ft fk fe st r acc h1
      | _ => .bad
/-- frozen, or at an id -/
def endD (b : Bool) (acc : List (PV × PV)) (h : Hh) : Rs PV := if b = true then .ok (.ref h.length) (h ++ [.dct acc]) else .ok (.dct acc) h
def xDc (b : Bool) (fi : Sl → Hh → Rs (List PV)) (t : Tg) (ft : Eb) (fk fe : Ex) (vs : List Nat) : Ex := fun st h => (fi st h).bind fun l h1 => (dcL t ft fk fe (wipeS st vs) l [] h1).bind fun acc h2 => endD b acc h2
section
variable {X : Cx} {cl : En} {W : WX} {kx vx tg iter : Expr} {ifs : List Expr} {scope : Scope} {own : List (Str × Nat)} {ft : Eb} {fk fe : Ex} {fi : Sl → Hh → Rs (List PV)} {t : Tg} {pos : Pos}
theorem dc_turns {bb : Bool} {l : List PV} {J : It} {vs : List Nat} {μ1 : Mp} {h1 : Hh} {H1 : Hp} {σ : St} {st : Sl} {Q : VK} {D : Addr} (hv : tgIn vs t = true) (S1 : Sim X.K cl μ1 h1 H1) (L1 : StR X.K cl μ1 h1 H1 st σ) (r1 : ItR X.K cl μ1 h1 H1 l J) (hD : H1 D = none)
    (k1 : KO X.K cl (rV X.K cl) W μ1 h1 H1 σ ((dcL t ft fk fe (wipeS st vs) l [] h1).bind fun acc h2 => endD bb acc h2) Q) :
    ∃ W' : Nat → Nat → Hp → Prop, (∃ m, W' 0 m (upd H1 D (.dK []))) ∧ ∀ i m H, W' i m H →
      (J.stop i H ∧ Q (.ref D) H) ∨ (J.go i H ∧ ∃ Nx : Hp → Prop, (∀ H', Nx H' → ∃ m', m' < m ∧ W' (i + 1) m' H') ∧ ∀ x H', J.yld i H x H' → gT X.K t x (wipe σ vs) H' fun σ2 H2 => wipe σ2 vs = wipe σ vs ∧ ttOf X.K cl W0 ft σ2 H2 fun b H3 =>
        if b = true then teOf X.K cl W0 fk σ2 H3 fun y H4 => teOf X.K cl W0 fe σ2 H4 fun z H5 => ∃ kvs k, y = kV k ∧ H5 D = some (.dK kvs) ∧ kvs.length < sizeLine ∧ Nx (upd H5 D (.dK (putK kvs k z))) else Nx H3) := by
  let Inv' : Nat → Hp → Prop := fun i H => i ≤ l.length ∧ ∃ μ' h' acc kvs, Grw μ1 h1 H1 μ' h' H ∧ μ'.res = D :: μ1.res ∧ (∀ a, a ∈ μ1.res → ∀ u, H1 a = some u → H a = some u) ∧ Sim X.K cl μ' h' H ∧ H D = some (.dK kvs) ∧
    acc.map (fun q => keyV q.1) = kvs.map (fun q => some q.1) ∧ (kvs.map (·.1)).Nodup ∧ VRs X.K cl μ' h' H (acc.map (·.2)) (kvs.map (·.2)) ∧ dcL t ft fk fe (wipeS st vs) (l.drop i) acc h' = dcL t ft fk fe (wipeS st vs) l [] h1
  have back : ∀ {μ' : Mp} {h' : Hh} {H : Hp}, μ'.res = D :: μ1.res → Grw μ' h' H ⟨μ'.ids, μ1.res⟩ h' H := fun {μ' h' H} hr => ⟨fun _ _ e => e, fun a x => by
    rcases x with x | x
    · exact .inl (.inl (by rw [hr]; exact List.mem_cons_of_mem _ x))
    · exact .inl (.inr x), fun _ _ e _ => e⟩
  have notR : D ∉ μ1.res := fun z => by
    obtain ⟨⟨u, q⟩, _⟩ := S1.rs D z
    rw [hD] at q; cases q
  have nbad : dcL t ft fk fe (wipeS st vs) l [] h1 ≠ .bad := fun z => by rw [z] at k1; exact k1
  refine ⟨fun i m H => m = l.length - i ∧ Inv' i H, ⟨l.length, by simp, Nat.zero_le _, μ1.hold D, h1, [], [], grw_hold hD, rfl, fun a ha u e => by rw [upd_ne (ne_of_none e hD)]; exact e, S1.hold hD, upd_same, rfl, .nil, .nil, by simp⟩, ?_⟩
  rintro i m H ⟨rfl, hi, μ', h', acc, kvs, g', hr, hk, S', eD, ek, nd, ra, k'⟩
  obtain ⟨go, stop⟩ := r1 μ' h' H g' S'
  have inD : D ∈ μ'.res := by rw [hr]; exact List.mem_cons_self
  by_cases hlt : i < l.length
  · obtain ⟨g0, yl⟩ := go i hlt
    refine .inr ⟨g0, Inv' (i + 1), fun H' n => ⟨l.length - (i + 1), by omega, rfl, n⟩, fun x H'' y => ?_⟩
    obtain ⟨gy, Sy, v, ev, rv⟩ := yl x H'' y
    have ed : l.drop i = v :: l.drop (i + 1) := by
      rw [List.drop_eq_getElem_cons hlt]
      have := List.getElem?_eq_some_iff.mp ev
      rw [this.2]
    rw [ed] at k'
    simp only [dcL] at k'
    have Lw : StR X.K cl μ' h' H'' (wipeS st vs) (wipe σ vs) := str_wipe (L1.grow (g'.trans gy.toGrw)) vs
    cases e1 : asg t v (wipeS st vs) with
    | none => simp only [e1] at k'; exact absurd k'.symm nbad
    | some st1 =>
      simp only [e1] at k'
      refine asg_okW t v _ st1 e1 vs hv x _ _ rv Lw fun σ2 L2 ew => ⟨by rw [ew]; exact wipe_wipe fun _ h => h, μ', st1, h', Sy, L2, ?_⟩
      have eD2 := gy.rk D inD _ eD
      have hk2 : ∀ a, a ∈ μ1.res → ∀ u, H1 a = some u → H'' a = some u := fun a ha u e => gy.rk a (by rw [hr]; exact List.mem_cons_of_mem _ ha) u (hk a ha u e)
      have gA := g'.trans gy.toGrw
      cases e2 : ft st1 h' with
      | exc c fs h2 => simp only [e2] at k'; exact absurd k'.symm nbad
      | bad => simp only [e2] at k'; exact absurd k'.symm nbad
      | ok b h2 =>
        intro μ3 H3 b' g3 S3 rb
        have eb : b = b' := rb
        subst eb
        have hr3 : μ3.res = D :: μ1.res := g3.res.trans hr
        have eD3 := g3.rk D inD _ eD2
        have hk3 : ∀ a, a ∈ μ1.res → ∀ u, H1 a = some u → H3 a = some u := fun a ha u e => g3.rk a (by rw [hr]; exact List.mem_cons_of_mem _ ha) u (hk2 a ha u e)
        have gB := gA.trans g3.toGrw
        have ra3 := VRs.grow (gy.toGrw.trans g3.toGrw) ra
        cases b with
        | false =>
          simp only [e2] at k'
          rw [if_neg Bool.false_ne_true]
          exact ⟨hlt, μ3, h2, acc, kvs, gB, hr3, hk3, S3, eD3, ek, nd, ra3, k'⟩
        | true =>
          rw [if_pos rfl]
          simp only [e2] at k'
          refine ⟨μ3, st1, h2, S3, L2.grow g3.toGrw, ?_⟩
          have inD3 : D ∈ μ3.res := by rw [hr3]; exact List.mem_cons_self
          cases e3 : fk st1 h2 with
          | exc c fs h3 => simp only [e3] at k'; exact absurd k'.symm nbad
          | bad => simp only [e3] at k'; exact absurd k'.symm nbad
          | ok q h4 =>
            intro μ4 H4 Y g4 S4 ry
            simp only [e3] at k'
            have hr4 : μ4.res = D :: μ1.res := g4.res.trans hr3
            have eD4 := g4.rk D inD3 _ eD3
            have inD4 : D ∈ μ4.res := by rw [hr4]; exact List.mem_cons_self
            have ra4 := VRs.grow g4.toGrw ra3
            refine ⟨μ4, st1, h4, S4, (L2.grow g3.toGrw).grow g4.toGrw, ?_⟩
            cases e4 : fe st1 h4 with
            | exc c fs h5 => simp only [e4] at k'; exact absurd k'.symm nbad
            | bad => simp only [e4] at k'; exact absurd k'.symm nbad
            | ok z h5 =>
              intro μ5 H5 Z g5 S5 rz
              simp only [e4] at k'
              have hr5 : μ5.res = D :: μ1.res := g5.res.trans hr4
              have eD5 := g5.rk D inD4 _ eD4
              have inD5 : D ∈ μ5.res := by rw [hr5]; exact List.mem_cons_self
              have ra5 := VRs.grow g5.toGrw ra4
              cases e5 : keyV q with
              | none => simp only [e5] at k'; exact absurd k'.symm nbad
              | some kk =>
                simp only [e5] at k'
                by_cases hz : acc.length < sizeLine
                · rw [if_pos hz] at k'
                  have hl : acc.length = kvs.length := by simpa using congrArg List.length ek
                  have gw : Grw μ5 h5 H5 μ5 h5 (upd H5 D (.dK (putK kvs kk Z))) := ⟨fun _ _ e => e, fun _ x => .inl x, fun p o e n => by
                    rw [upd_ne (show p ≠ D from fun z => n (by rw [z]; exact .inl inD5))]; exact e⟩
                  obtain ⟨i1, i2⟩ := dput_ok rz ek nd ra5
                  refine ⟨kvs, kk, keyV_ok ry e5, eD5, by rw [← hl]; exact hz, hlt, μ5, h5, dPut acc kk z, putK kvs kk Z, (gB.trans g4.toGrw).trans (g5.toGrw.trans gw), hr5, fun a ha u e => ?_, ?_, upd_same, i1, putK_nd nd, VRs.grow gw i2, k'⟩
                  · rw [upd_ne fun z : a = D => by subst z; exact notR ha]
                    exact g5.rk a (by rw [hr4]; exact List.mem_cons_of_mem _ ha) u (g4.rk a (by rw [hr3]; exact List.mem_cons_of_mem _ ha) u (hk3 a ha u e))
                  · have nD : D ∉ μ5.ids := (S5.rs D inD5).2
                    refine S5.grw gw rfl (fun a ha => upd_ne fun z => nD (z ▸ ha)) fun a ha => ?_
                    by_cases ha' : a = D
                    · subst ha'; exact ⟨⟨_, upd_same⟩, nD⟩
                    · rw [upd_ne ha']; exact S5.rs a ha
                · rw [if_neg hz] at k'
                  exact absurd k'.symm nbad
  · have ei : i = l.length := by omega
    subst ei
    rw [List.drop_length] at k'
    refine .inl ⟨stop, ?_⟩
    rw [← k'] at k1
    cases bb with
    | false =>
      have nD : ¬ Live ⟨μ'.ids, μ1.res⟩ h' D := fun z => by
        rcases z with z | ⟨j, o, e1, _⟩
        · exact notR z
        · exact (S'.rs D inD).2 (List.mem_of_getElem? e1)
      exact k1 ⟨μ'.ids, μ1.res⟩ H (.ref D) ⟨g'.trans (back hr), rfl, hk⟩ (S'.grw (back hr) rfl (fun _ _ => rfl) fun a ha => S'.rs a (by rw [hr]; exact List.mem_cons_of_mem _ ha)) (.dct nD eD ek nd (VRs.grow (back hr) ra))
    | true =>
      have hrr : ∀ a, a ∈ μ1.res → a ∈ μ'.res := fun a ha => by rw [hr]; exact List.mem_cons_of_mem _ ha
      have gg := grw_give (H := H) (ob := .dct acc) S'.len inD hrr
      exact k1 (μ'.give D μ1.res) H (.ref D) ⟨g'.trans gg, rfl, hk⟩ (S'.give inD hrr notR (.dK eD ek nd (VRs.grow gg ra))) (.ref (give_ref S'.len))
theorem e_dc {bb : Bool} (hc : X.calm = true) (hN : X.N.Nodup) (hi : PI X tg iter (tiOf X.K cl W fi)) (ok : BlkOk X.N X.env.scope scope own) (hv : tgIn (own.map (·.2)) t = true)
    (hg : ∀ (s : Shared) (H : Hp) (C : Addr) (cc : List (Str × Addr)) (fp : List Addr), PG (X.blk s H scope (compEnvC scope cc C X.env) fp) tg (gT X.K t)) (ht : ∀ (s : Shared) (H : Hp) (C : Addr) (cc : List (Str × Addr)) (fp : List Addr), PTs (X.blk s H scope (compEnvC scope cc C X.env) fp) ifs (ttOf X.K cl W0 ft))
    (hk : ∀ (s : Shared) (H : Hp) (C : Addr) (cc : List (Str × Addr)) (fp : List Addr), PE (X.blk s H scope (compEnvC scope cc C X.env) fp) kx (teOf X.K cl W0 fk))
    (he : ∀ (s : Shared) (H : Hp) (C : Addr) (cc : List (Str × Addr)) (fp : List Addr), PE (X.blk s H scope (compEnvC scope cc C X.env) fp) vx (teOf X.K cl W0 fe)) (hs : ∀ x, foldedSetIterable iter X.env x = pure x := by intro _; rfl) :
    PE X (.DictComp kx vx [⟨tg, iter, ifs, 0⟩] scope pos) (teOf X.K cl W (xDc bb fi t ft fk fe (own.map (·.2)))) :=
  PE.w (pe_dc hc hN hi ok hg ht hk he hs) fun σ H Q ⟨μ, st, h, S, L, k⟩ => ⟨μ, st, h, S, L, KO.seq k fun μ1 h1 H1 l J g1 S1 r1 k1 D hD => dc_turns hv S1 (L.grow g1.toGrw) r1 hD k1⟩
end
end TR

set_option Elab.async false
set_option linter.all false
set_option maxRecDepth 100000
set_option maxHeartbeats 4000000
namespace TR
open PySem PySem.Spec L2
open PyProof.Rows (envOfC)

/-! ### calls without arguments, new objects, classmethods -/
def xMake (c : Nat) (g : List PV → Hh → Rs PV) (fa : Ea) : Ex := fun st h => (fa st h).bind fun as h1 => (g (.ref h1.length :: as) (h1 ++ [.ins c []])).bind fun v h2 => match v with
  | .non => .ok (.ref h1.length) h2
  | _ => .bad
/-- cls(..), cls in the slot i -/
def xMakeV (i c : Nat) (g : List PV → Hh → Rs PV) (fa : Ea) : Ex := fun st h => match st[i]? with
  | some (some (.cls c')) => if c' = c then xMake c g fa st h else .bad
  | _ => .bad
/-- C.m(..), m a classmethod -/
def xCMeth (c : Nat) (g : List PV → Hh → Rs PV) (fa : Ea) : Ex := fun st h => (fa st h).bind fun as h1 => g (.cls c :: as) h1
/-- what is asked where an object is made -/
def MkAt (C : Addr) (sp : Sp) (E : XK) (vs : List V) (H : Hp) (Q : VK) : Prop :=
  ∀ x dx, H x = none → H dx = none → dx ≠ x → sp (.ref x :: vs) (upd (upd H dx (.own x)) x (.ins C dx [])) (fun v H2 => v = .non ∧ Q (.ref x) H2) E
section
variable {X : Cx} {cl : En} {W : WX} {e o value : Expr} {es : List Expr} {fa : Ea} {fo fv : Ex} {t : TA} {pos pos' p apos : Pos} {x m f : Str} {fA C q : Addr} {fd : FuncData} {ps : List Str} {i k n c : Nat} {g : List PV → Hh → Rs PV} {CX : CXT} {sp : Sp}
theorem raw0 {P : Program} {w : World} {K : PySem.W.Frag} {mg : Str → Option Value} {base : Heap} (F : FnOk P w K mg base CX k fA fd ps sp) (hb : Binds K fd ps []) : FnR P w K mg base CX k fA sp :=
  (F.raw hb .nil).imp fun vs H Q E h => by rw [List.append_nil]; exact h
section
variable {pins : List (Addr × Obj)} {σ : St} {H : Hp} {s : Shared} {Q : VK} {us : List Value} {vs : List V} {B : Around} {E : XK}
/-- a def runs, under whatever stands around it -/
theorem fn_runs (F : FnR X.prog X.w X.K X.mg X.base CX k fA sp) (hr : Room k B) (hx : PassesAt CX X σ E) (I : Inv X pins σ H s) (en : Env0 X.prog X.w X.K X.mg X.base B X.stack s H) (r : Vals vs us) (h : sp vs H Q E) :
    codeAny (model X.prog X.w) B (.call (.ref fA) ⟨us, []⟩) (fun r s' => match r with | .ok (.ret v) => EP X pins σ Q v s' | .ok _ => False | .error e => X.xe e s') s :=
  codeAny_mono (F B X.stack s H us vs Q E hr en r h) fun r s' z => by
    cases r with
    | error e => exact hx pins H s e s' I z
    | ok fl =>
      cases fl with
      | ret u => exact I.after z
      | _ => exact False.elim z
theorem make_runs (M : Mk X.K C fA) (F : FnR X.prog X.w X.K X.mg X.base CX k fA sp) (hr : Room (k + 1) X.A) (hx : PassesAt CX X σ E) (I : Inv X pins σ H s) (r : Vals vs us) (h : MkAt C sp E vs H Q) : wpAny (model X.prog X.w) X.A (call (.ref C) us) (EP X pins σ Q) X.xe s := by
  have I' := Inv.made (C := C) I
  have ask := h (s.heap.objs.size + 1) s.heap.objs.size (I.hok.fresh (Nat.le_succ _)) (I.hok.fresh (Nat.le_refl _)) (Nat.ne_of_lt (Nat.lt_succ_self _))
  refine wpAny_call (make_map (f := fA) I.kIn M.makes M.init (beq_iff_eq.mp M.fn) (codeAny_mono (fn_runs (vs := .ref (s.heap.objs.size + 1) :: vs) F (hr.make C us []) hx I' (I'.env0.make C us []) (.cons rfl r) ask) fun r s' z => ?_))
  cases r with
  | error e => exact z
  | ok fl =>
    cases fl with
    | ret u =>
      obtain ⟨v, H', I3, rv, ev, q3⟩ := z
      subst ev
      exact ⟨rv, V.ref (s.heap.objs.size + 1), H', I3, rfl, q3⟩
    | _ => exact False.elim z
end
theorem e_call0 (F : FnOk X.prog X.w X.K X.mg X.base (L2.CX X.prog X.w) k fA fd ps (spOf X.K cl n g)) (tk : Takes X W) (hr : Room k X.A) (hg : Gl X x) (hm : X.mg x = some (.ref fA)) (hk : PySem.W.keepIn X.K (.ref fA) = true) (hb : Binds X.K fd ps [])
    (hdb : (x == ("__debug__" : Str)) = false := by decide) (hc : ∀ as h, g as h ≠ .bad → as.length = n) : PE X (.Call (.Name x p) [] [] pos) (teOf X.K cl W (xCall g aNil)) :=
  ⟨fun pins s σ H Q I ⟨μ, st, h, S, L, q⟩ => wpAny_Call_Name_kw (ld_glob I hg hm (PySem.W.callWith_K0 I.kIn hk (wpAny_call (fn_runs (raw0 F hb) hr (passAt tk σ) I I.env0 .nil (spOf_of (σ := σ) hc S .nil q)))) hdb)⟩
/-- the object's run is what is asked -/
theorem mk_at {σ : St} {μ : Mp} {h : Hh} {H : Hp} {as : List PV} {AS : List V} {Q : VK} (hc : ∀ as h, g as h ≠ .bad → as.length = n) (S : Sim X.K cl μ h H) (r : VRs X.K cl μ h H as AS)
    (k : KO X.K cl (rV X.K cl) W μ h H σ ((g (.ref h.length :: as) (h ++ [.ins c []])).bind fun v h2 => match v with | .non => .ok (.ref h.length) h2 | _ => .bad) Q) : MkAt (cl.ca c) (spOf X.K cl n g) (WE W σ) AS H Q := by
  intro x dx hx hdx hne
  have hk : ∀ q u, H q = some u → upd (upd H dx (.own x)) x (.ins (cl.ca c) dx []) q = some u := fun q u e => by rw [upd_ne (ne_of_none e hx), upd_ne (ne_of_none e hdx)]; exact e
  have S' : Sim X.K cl (μ.add x) (h ++ [.ins c []]) (upd (upd H dx (.own x)) x (.ins (cl.ca c) dx [])) := S.id hx hk (.ins upd_same rfl .nil)
  have G : Grow μ h H (μ.add x) (h ++ [.ins c []]) (upd (upd H dx (.own x)) x (.ins (cl.ca c) dx [])) := grow_id S.len hx hk
  have hid : (μ.add x).ids[h.length]? = some x := id_ref S.len
  refine spOf_of (σ := σ) (W := W) hc S' (.cons (.ref hid) (VRs.grow G.toGrw r)) (KO.seq (KO.grow G k) fun μ1 h1 H1 a b g1 S1 r1 k1 => ?_)
  cases r1 with
  | non => exact ⟨rfl, KO.now (R := rV X.K cl) S1 (.ref (g1.pre _ _ hid)) k1⟩
  | _ => exact k1.elim
theorem e_make (M : Mk X.K (cl.ca c) fA) (F : FnOk X.prog X.w X.K X.mg X.base (L2.CX X.prog X.w) k fA fd ps (spOf X.K cl n g)) (tk : Takes X W) (hr : Room (k + 1) X.A) (hg : Gl X x) (hm : X.mg x = some (.ref (cl.ca c))) (hb : Binds X.K fd ps []) (ha : PA X (e :: es) (taOf X.K cl W fa))
    (hdb : (x == ("__debug__" : Str)) = false := by decide) (he : starEach (e :: es) X.env = (false, eval e X.env) :: starEach es X.env := by rfl) (hpl : (backTo pos (starEach es X.env)).any (·.1) = false := by rfl)
    (hc : ∀ as h, g as h ≠ .bad → as.length = n) : PE X (.Call (.Name x p) (e :: es) [] pos) (teOf X.K cl W (xMake c g fa)) := by
  refine ⟨fun pins s σ H Q I ⟨μ, st, h, S, L, q⟩ => wpAny_Call_Name_kw (ld_glob I hg hm ?_ hdb)⟩
  refine PySem.W.callWith_K (h₀ := X.base) I.ok.mod.kin M.kp (thn (ha.run pos pins s σ H (fun vs H1 => MkAt (cl.ca c) (spOf X.K cl n g) (WE W σ) vs H1 Q) I ⟨μ, st, h, S, L, KO.seq q fun μ1 h1 H1 as AS g1 S1 r1 k1 => mk_at hc S1 r1 k1⟩) fun us s1 z => ?_) he hpl
  obtain ⟨vs, H1, I1, r, z⟩ := z
  exact ⟨I1.kIn, make_runs M (raw0 F hb) hr (passAt tk σ) I1 r z⟩
theorem e_make0 (M : Mk X.K (cl.ca c) fA) (F : FnOk X.prog X.w X.K X.mg X.base (L2.CX X.prog X.w) k fA fd ps (spOf X.K cl n g)) (tk : Takes X W) (hr : Room (k + 1) X.A) (hg : Gl X x) (hm : X.mg x = some (.ref (cl.ca c))) (hb : Binds X.K fd ps [])
    (hdb : (x == ("__debug__" : Str)) = false := by decide) (hc : ∀ as h, g as h ≠ .bad → as.length = n) : PE X (.Call (.Name x p) [] [] pos) (teOf X.K cl W (xMake c g aNil)) :=
  ⟨fun pins s σ H Q I ⟨μ, st, h, S, L, q⟩ => wpAny_Call_Name_kw (ld_glob I hg hm (PySem.W.callWith_K0 I.kIn M.kp (make_runs M (raw0 F hb) hr (passAt tk σ) I .nil (mk_at hc S .nil q))) hdb)⟩
theorem e_makeV (pv : PE X (.Name x p) (tVar i)) (M : Mk X.K (cl.ca c) fA) (F : FnOk X.prog X.w X.K X.mg X.base (L2.CX X.prog X.w) k fA fd ps (spOf X.K cl n g)) (tk : Takes X W) (hr : Room (k + 1) X.A) (hb : Binds X.K fd ps []) (ha : PA X (e :: es) (taOf X.K cl W fa))
    (he : starEach (e :: es) X.env = (false, eval e X.env) :: starEach es X.env := by rfl) (hpl : (backTo pos (starEach es X.env)).any (·.1) = false := by rfl)
    (hc : ∀ as h, g as h ≠ .bad → as.length = n) : PE X (.Call (.Name x p) (e :: es) [] pos) (teOf X.K cl W (xMakeV i c g fa)) := by
  refine ⟨fun pins s σ H Q I ⟨μ, st, h, S, L, q⟩ => wpAny_Call_Name_kw ?_⟩
  unfold xMakeV at q
  split at q
  · rename_i c' e1
    split at q
    · rename_i ec
      subst ec
      obtain ⟨y, ey, ry⟩ := L.at_ i _ e1
      cases ry with
      | cls =>
        refine thn (pv.run pins s σ H (fun v H1 => v = .ref (cl.ca c') ∧ H1 = H) I ⟨_, ey, rfl, rfl⟩) fun u s1 ⟨v, H1, I1, ru, ev, eH⟩ => ?_
        subst ev
        subst eH
        obtain rfl : u = Value.ref (cl.ca c') := ru
        refine PySem.W.callWith_K (h₀ := X.base) I1.ok.mod.kin M.kp (thn (ha.run pos pins s1 σ H1 (fun vs H2 => MkAt (cl.ca c') (spOf X.K cl n g) (WE W σ) vs H2 Q) I1 ⟨μ, st, h, S, L, KO.seq q fun μ1 h1 H2 as AS g1 S1 r1 k1 => mk_at hc S1 r1 k1⟩) fun us s2 z => ?_) he hpl
        obtain ⟨vs, H2, I2, r, z⟩ := z
        exact ⟨I2.kIn, make_runs M (raw0 F hb) hr (passAt tk σ) I2 r z⟩
    · exact q.elim
  · exact q.elim
theorem e_cmeth {mc : Value} {pA : Addr} {pl : Sem Bool} (hg : Gl X x) (hmg : X.mg x = some (.ref (cl.ca c))) (r : ClX.CRead X.K (cl.ca c) mc) (cm : ClX.CMet X.K (cl.ca c) mc m pA fA) (F : FnOk X.prog X.w X.K X.mg X.base (L2.CX X.prog X.w) k fA fd ps (spOf X.K cl n g)) (tk : Takes X W) (hr : Room k X.A) (hb : Binds X.K fd ps [])
    (ha : PA X (e :: es) (taOf X.K cl W fa)) (hdb : (x == ("__debug__" : Str)) = false := by decide) (he : starEach (e :: es) X.env = (false, eval e X.env) :: starEach es X.env := by rfl) (hpl : (backTo pos (starEach es X.env)).any (·.1) = false := by rfl)
    (ht : eval (.Call (.Attribute (.Name x p) m apos) (e :: es) [] pos) X.env = (do
      let v ← eval (.Name x p) X.env
      standAt apos.atName
      let (f, first) ← holding [v] (getMethod v m pl)
      callWith pos f first (backTo pos (starEach (e :: es) X.env)) (backToKw pos (keywordEach [] X.env))) := by rfl)
    (hc : ∀ as h, g as h ≠ .bad → as.length = n) : PE X (.Call (.Attribute (.Name x p) m apos) (e :: es) [] pos) (teOf X.K cl W (xCMeth c g fa)) := by
  refine ⟨fun pins s σ H Q I ⟨μ, st, h, S, L, q⟩ => PySem.W.methodCall_KW (pl := pl) (ld_glob I hg hmg ?_ hdb) ht⟩
  refine ClX.getmethcm_ok I r cm fun s2 I2 => ?_
  refine ClX.callwith_cm I2 (ClX.base_none I (Nat.le_refl _)) cm.fi (thn (ha.run pos _ s2 σ H (fun vs H1 => spOf X.K cl n g (.ref (cl.ca c) :: vs) H1 Q (WE W σ)) I2 ⟨μ, st, h, S, L, KO.seq q fun μ1 h1 H1 as AS g1 S1 r1 k1 => spOf_of hc S1 (.cons .cls r1) k1⟩) fun us s3 z => ?_) he hpl
  obtain ⟨vs, H1, I3, rv, z⟩ := z
  refine ⟨⟨ClX.pin_at I3, I3.kIn⟩, thn (wpAny_call (PySem.W.method_call (ClX.pin_at I3) (fn_runs (us := .ref (cl.ca c) :: us) (vs := .ref (cl.ca c) :: vs) (raw0 F hb) hr (passAt tk σ) I3 I3.env0 (.cons rfl rv) z))) fun _ _ y => ClX.unpinE y⟩
end
end TR

set_option Elab.async false
set_option linter.all false
set_option maxRecDepth 100000
set_option maxHeartbeats 4000000
namespace TR
open PySem PySem.Spec L2
open PyProof.Rows (envOfC)

/-! ### enumerate and zip over lists, tuples, texts -/
inductive Src where
  | lst (a : Addr) | tup (a : Addr) | txt (x : Str) (t : Tok)
def Src.adr : Src → List Addr
  | .lst a => [a]
  | .tup a => [a]
  | .txt _ _ => []
def signV (x : Str) : List V := x.cps.toList.map fun c => V.str ⟨#[c]⟩
def SrcAt (K : PySem.W.Frag) (H : Hp) : Src → List V → Prop
  | .lst a, xs => SqL K H a xs
  | .tup a, xs => SqT K H a xs
  | .txt x _, xs => xs = signV x
def srcIt : Src → Addr → Nat → Heap → Prop
  | .lst a, it, i, h => h.IsListIter it a i
  | .tup a, it, i, h => h.IsTupleIter it a i
  | .txt x t, it, i, h => h.IsStrIter it (strIterType x) x t i
theorem srcIt_at {src : Src} {it : Addr} {i : Nat} {h h' : Heap} (q : srcIt src it i h) (k : ∀ o, h.get? it = some o → h'.get? it = some o) : srcIt src it i h' := by
  cases src with
  | lst a => exact Heap.IsListIter.at q k
  | tup a => exact Heap.IsTupleIter.at q k
  | txt x t => obtain ⟨o, ho, r⟩ := q; exact ⟨o, k o ho, r⟩
theorem srcIt_obj {src : Src} {it : Addr} {i : Nat} {h : Heap} (q : srcIt src it i h) : ∃ o, h.get? it = some o ∧ ∀ v, o.data ≠ .cell v := by
  cases src with
  | lst a => obtain ⟨o, e, _, d⟩ := q; exact ⟨o, e, fun v z => by rw [d] at z; cases z⟩
  | tup a => obtain ⟨o, e, _, d⟩ := q; exact ⟨o, e, fun v z => by rw [d] at z; cases z⟩
  | txt x t => obtain ⟨o, e, _, d⟩ := q; exact ⟨o, e, fun v z => by rw [d] at z; cases z⟩
section
variable {X : Cx} {pins : List (Addr × Obj)} {σ : St} {H : Hp} {s : Shared} {src : Src} {xs ys : List V}
theorem src_inj (I : Inv X pins σ H s) (a : SrcAt X.K H src xs) (b : SrcAt X.K H src ys) : xs = ys := by
  cases src with
  | lst p => exact I.list_inj a b
  | tup p => exact I.tuple_inj a b
  | txt x t => exact a.trans b.symm
/-- what an iterator over it draws -/
structure SrcDraws (X : Cx) (A : Around) (src : Src) (it : Addr) (xs : List V) (h : Heap) (P : Nat → Value → Prop) (S : Nat → Heap → Prop) : Prop where
  dr : Draws X.prog X.w A it (it :: src.adr) xs.length P S
  to : ∀ i, srcIt src it i h → S i h
  fr : ∀ i h, S i h → srcIt src it i h
  rel : ∀ i v, P i v → ∃ x, xs[i]? = some x ∧ RelV x v
theorem src_draws {A : Around} {it : Addr} (hh : A.handled = none) (I : Inv X pins σ H s) (q : SrcAt X.K H src xs) (hne : it ∉ src.adr) : ∃ P S, SrcDraws X A src it xs s.heap P S := by
  cases src with
  | lst a =>
    obtain ⟨its, rv, p, _⟩ := I.list q
    have hz : its.toArray.size = xs.length := by simpa using rv.length.symm
    have D0 := Draws.list (prog := X.prog) (w := X.w) hh it a (fun z => hne (by simp [Src.adr, z])) its.toArray
    rw [hz] at D0
    refine ⟨_, _, ⟨D0, fun i st => ⟨st, p.isList⟩, fun i h st => st.1, fun i v e => ?_⟩⟩
    have e' : its[i]? = some v := by simpa using e
    obtain ⟨hi, _⟩ := List.getElem?_eq_some_iff.mp e'
    have hx : xs[i]? = some (xs[i]'(by rw [rv.length]; exact hi)) := by simp [show i < xs.length by rw [rv.length]; exact hi]
    obtain ⟨u, hu, ru⟩ := rv.get hx
    rw [e'] at hu
    cases hu
    exact ⟨_, hx, ru⟩
  | tup a =>
    obtain ⟨its, rv, p, _⟩ := I.tuple q
    have hz : its.toArray.size = xs.length := by simpa using rv.length.symm
    have D0 := Draws.tuple (prog := X.prog) (w := X.w) hh it a (fun z => hne (by simp [Src.adr, z])) its.toArray
    rw [hz] at D0
    refine ⟨_, _, ⟨D0, fun i st => ⟨st, p⟩, fun i h st => st.1, fun i v e => ?_⟩⟩
    have e' : its[i]? = some v := by simpa using e
    obtain ⟨hi, _⟩ := List.getElem?_eq_some_iff.mp e'
    have hx : xs[i]? = some (xs[i]'(by rw [rv.length]; exact hi)) := by simp [show i < xs.length by rw [rv.length]; exact hi]
    obtain ⟨u, hu, ru⟩ := rv.get hx
    rw [e'] at hu
    cases hu
    exact ⟨_, hx, ru⟩
  | txt x t =>
    have hz : x.cps.size = xs.length := by
      have q' : xs = signV x := q
      rw [q']; simp [signV]
    have D0 := Draws.text (prog := X.prog) (w := X.w) hh it x t
    rw [hz] at D0
    refine ⟨_, _, ⟨D0, fun i st => st, fun i h st => st, fun i v e => ?_⟩⟩
    obtain ⟨c, u, ec, rfl⟩ := e
    have q' : xs = signV x := q
    refine ⟨V.str ⟨#[c]⟩, ?_, ⟨u, rfl⟩⟩
    rw [q']
    simp [signV, ec]
theorem src_old (I : Inv X pins σ H s) (q : SrcAt X.K H src xs) : ∀ a ∈ src.adr, a < s.heap.objs.size := by
  intro b hb
  cases src with
  | lst a =>
    obtain ⟨its, rv, p, _⟩ := I.list q
    have : b = a := by simpa [Src.adr] using hb
    subst this
    exact p.lt
  | tup a =>
    obtain ⟨its, rv, ⟨o, ho, _⟩, _⟩ := I.tuple q
    have : b = a := by simpa [Src.adr] using hb
    subst this
    exact Heap.lt_size ho
  | txt x t => cases hb
end

/-! ### enumerate -/
def IteS (K : PySem.W.Frag) (src : Src) : It :=
  ⟨fun i H => ∃ (xs : List V) (x : V), SrcAt K H src xs ∧ xs[i]? = some x, fun i H v H' => ∃ T x, v = .ref T ∧ H T = none ∧ H' = upd H T (.tup [.int (i : Nat), x]) ∧ ∀ xs, SrcAt K H src xs → xs[i]? = some x, fun i H => ∃ xs : List V, SrcAt K H src xs ∧ xs.length = i⟩
theorem turn_enumS {P : Program} {w : World} {K : PySem.W.Frag} {elts : List Expr} {kk : Nat} {tpos : Pos} {src : Src} {e it : Addr} (hne : e ≠ it) (h1 : it ∉ src.adr) (h2 : e ∉ src.adr) :
    Turn P w K (.Tuple elts kk tpos) (IteS K src) [e, it] e (fun i h => (∃ old, IsEnum h e it ((i : Nat) : Int) old) ∧ srcIt src it i h) where
  mem := by simp
  obj := fun i h st b hb => by
    obtain ⟨⟨old, he⟩, hit⟩ := st
    have e' : b = e ∨ b = it := by simpa using hb
    rcases e' with z | z
    · rw [z]; exact ⟨_, he, fun v q => nomatch q⟩
    · rw [z]; exact srcIt_obj hit
  keep := fun i h h' st k => let ⟨⟨old, he⟩, hi⟩ := st; ⟨⟨old, k e (by simp) _ he⟩, srcIt_at hi fun o q => k it (by simp) o q⟩
  item := by
    intro X hP hw hK hc i pins s σ H E I hf st hg
    subst hP hw hK
    obtain ⟨⟨old, he⟩, hit⟩ := st
    obtain ⟨xs, x, hq, hx⟩ := hg
    obtain ⟨P, S, D⟩ := src_draws (A := X.A.in1) (I.ok.hd hc) I hq h1
    have hi : i < xs.length := (List.getElem?_eq_some_iff.mp hx).1
    refine wpAny_pyNext_enum_itemC D.dr he (D.to i hit) hi hne (fun z => by rcases List.mem_cons.mp z with z | z; exact hne z; exact h2 z) fun u h' tk hP ho hit' hT hsz hk => ?_
    obtain ⟨x', hx', ru⟩ := D.rel i u hP
    rw [hx] at hx'
    cases hx'
    have hel : e < s.heap.objs.size := Heap.lt_size he
    have hil : it < s.heap.objs.size := by obtain ⟨o, q, _⟩ := srcIt_obj hit; exact Heap.lt_size q
    refine ⟨_, rfl, wpAny_letOwnedTupleGo_enum (s := { s with heap := h', toks := tk + 1 }) ho fun h'' he' sb => ?_⟩
    have hT2 : h''.get? s.heap.objs.size = some { cls := .type "tuple", data := .seq #[.int i tk, u] } := (sb.2 _ (Nat.ne_of_gt hel)).trans hT
    have new : ObjOk X.prog X.w (upd H s.heap.objs.size (.tup [.int (i : Nat), x])) h'' s.heap.objs.size (.tup [.int (i : Nat), x]) :=
      ⟨by show 2 ≤ sizeLine; decide, [.int i tk, u], .cons ⟨_, rfl⟩ (.cons ru .nil), ⟨_, hT2, rfl, _, rfl⟩⟩
    have I1 : Inv X pins σ (upd H s.heap.objs.size (.tup [.int (i : Nat), x])) { s with heap := h'', toks := tk + 1 } :=
      I.turnedNew (ch := [e, it]) (fun b ob hb q => (sb.2 b (fun z => hb (by simp [z]))).trans (hk b ob (fun z => hb (by simp [z])) (fun z => hb (by simp [z])) q)) hf (Nat.le_refl _) new
    refine ⟨.ref s.heap.objs.size, _, I1, rfl, ⟨_, x, rfl, I.hok.fresh (Nat.le_refl _), rfl, fun ys hy => by rw [src_inj I hy hq]; exact hx⟩, ⟨⟨u, ?_⟩, srcIt_at (D.fr _ _ hit') fun o q => (sb.2 it (Ne.symm hne)).trans q⟩, fun b hb => ?_⟩
    · have e1 : ((i + 1 : Nat) : Int) = (i : Int) + 1 := by omega
      rw [e1]; exact he'
    · have hb' : b < s.heap.objs.size := by
        have e' : b = e ∨ b = it := by simpa using hb
        rcases e' with z | z
        · rw [z]; exact hel
        · rw [z]; exact hil
      rw [upd_ne (Nat.ne_of_lt hb')]
      exact (hf b hb).1
  done := by
    intro X hP hw hK hc i pins s σ H E I hf st hg
    subst hP hw hK
    obtain ⟨⟨old, he⟩, hit⟩ := st
    obtain ⟨xs, hq, hx⟩ := hg
    subst hx
    obtain ⟨P, S, D⟩ := src_draws (A := X.A.in1) (I.ok.hd hc) I hq h1
    obtain ⟨f0, f1, f2, f3, f4, f5⟩ := hf it (by simp)
    exact wpAny_pyNext_enum_endD D.dr he (D.to _ hit) fun h' eb => ⟨rfl, I.turned (t' := s.toks) (fun b o hb q => eb b o hb q) f0 f1 f3 f4 f5⟩
  self := fun A i s Q E st h => let ⟨⟨_, he⟩, _⟩ := st; wpAny_pyIter_enum he h
/-- what is enumerated -/
def srcV (x : V) (src : Src) : Prop := match src with
  | .lst a => x = .ref a
  | .tup a => False
  | .txt y t => x = .str y
def iEnumS (K : PySem.W.Frag) (ta : TA) : TI := fun σ H R => ta σ H fun vs H1 => (∃ a xs, vs = [.ref a] ∧ SqL K H1 a xs ∧ R (IteS K (.lst a)) H1) ∨ ∃ x, vs = [.str x] ∧ ∀ t, R (IteS K (.txt x t)) H1
theorem pi_enumS {X : Cx} {e : Expr} {ta : TA} {p pos tpos : Pos} {elts : List Expr} {kk : Nat} (hg : Gl X "enumerate") (hm : X.mg "enumerate" = none) (ha : PA X [e] ta) (hs : starEach [e] X.env = [(false, eval e X.env)] := by rfl) :
    PI X (.Tuple elts kk tpos) (.Call (.Name "enumerate" p) [e] [] pos) (iEnumS X.K ta) := by
  refine ⟨fun pins s σ H R I h => ?_⟩
  refine PyProof.Rows.Call_ (ld_blt I hg hm PyProof.Rows.boot_enumerate (PyProof.Rows.callWith_type1 (thn (ha.run pos pins s σ H _ I h) fun us s1 ⟨vs, H1, I1, r1, q1⟩ => ?_) hs rfl))
  have two : ∀ b, b ∈ [s1.heap.objs.size + 1, s1.heap.objs.size] → FpOk X pins H1 b := fun b hb => by
    have e' : b = s1.heap.objs.size + 1 ∨ b = s1.heap.objs.size := by simpa using hb
    have hle : s1.heap.objs.size ≤ b := by
      rcases e' with z | z
      · rw [z]; exact Nat.le_add_right _ _
      · rw [z]; exact Nat.le_refl _
    exact I1.fpOk hle (I1.hok.fresh hle)
  rcases q1 with ⟨a, xs, ex, hq, q⟩ | ⟨x, ex, q⟩
  · subst ex
    cases r1 with
    | cons r rr =>
      cases rr
      cases r
      obtain ⟨its, rv, p', hz⟩ := I1.list hq
      refine call_enumerate_list p'.isList fun h' he hit hsz hk => wpAny_pyIter_enum he ?_
      have I2 : Inv X pins σ H1 { s1 with heap := h' } := I1.kept (t' := s1.toks) hk
      have hlt : a < s1.heap.objs.size := p'.lt
      have n1 : s1.heap.objs.size ∉ Src.adr (.lst a) := fun z => by
        have z' : s1.heap.objs.size = a := by simpa [Src.adr] using z
        rw [← z'] at hlt; exact Nat.lt_irrefl _ hlt
      have n2 : s1.heap.objs.size + 1 ∉ Src.adr (.lst a) := fun z => by
        have z' : s1.heap.objs.size + 1 = a := by simpa [Src.adr] using z
        rw [← z'] at hlt
        exact Nat.lt_irrefl _ (Nat.lt_of_succ_lt hlt)
      exact ⟨s1.heap.objs.size + 1, [s1.heap.objs.size + 1, s1.heap.objs.size], _, _, H1, rfl, I2, turn_enumS (Nat.succ_ne_self _) n1 n2, ⟨⟨.none, he⟩, hit⟩, two, q⟩
  · subst ex
    cases r1 with
    | cons r rr =>
      cases rr
      obtain ⟨t, rfl⟩ := r
      refine call_enumerate_str fun h' he hit hsz hk => wpAny_pyIter_enum he ?_
      have I2 : Inv X pins σ H1 { s1 with heap := h' } := I1.kept (t' := s1.toks) hk
      exact ⟨s1.heap.objs.size + 1, [s1.heap.objs.size + 1, s1.heap.objs.size], _, _, H1, rfl, I2, turn_enumS (src := .txt x t) (Nat.succ_ne_self _) (by simp [Src.adr]) (by simp [Src.adr]), ⟨⟨.none, he⟩, hit⟩, two, q t⟩

/-! ### zip of two -/
def ItzS (K : PySem.W.Frag) (a b : Src) : It :=
  ⟨fun i H => ∃ (xs ys : List V) (x y : V), SrcAt K H a xs ∧ SrcAt K H b ys ∧ xs[i]? = some x ∧ ys[i]? = some y,
    fun i H v H' => ∃ T x y, v = .ref T ∧ H T = none ∧ H' = upd H T (.tup [x, y]) ∧ (∀ xs, SrcAt K H a xs → xs[i]? = some x) ∧ ∀ ys, SrcAt K H b ys → ys[i]? = some y,
    fun i H => ∃ xs ys : List V, SrcAt K H a xs ∧ SrcAt K H b ys ∧ i ≤ xs.length ∧ i ≤ ys.length ∧ (i = xs.length ∨ i = ys.length)⟩
theorem turn_zipS {P : Program} {w : World} {K : PySem.W.Frag} {elts : List Expr} {kk : Nat} {tpos : Pos} {a b : Src} {z TI TO i1 i2 : Addr} (D : ZipSep2 z TI TO i1 i2 (i1 :: a.adr) (i2 :: b.adr)) (n1 : i1 ∉ a.adr) (n2 : i2 ∉ b.adr) :
    Turn P w K (.Tuple elts kk tpos) (ItzS K a b) [z, TI, TO, i1, i2] z (fun i h => IsZip h z TI TO .none ∧ IsTupOf2 h TI (.ref i1) (.ref i2) ∧ (∃ x y, IsTupOf2 h TO x y) ∧ srcIt a i1 i h ∧ srcIt b i2 i h) where
  mem := by simp
  obj := fun i h st c hc => by
    obtain ⟨hz, hTI, ⟨x, y, hTO⟩, h1, h2⟩ := st
    have e' : c = z ∨ c = TI ∨ c = TO ∨ c = i1 ∨ c = i2 := by simpa using hc
    rcases e' with q | q | q | q | q
    · rw [q]; exact ⟨_, hz, fun v q => nomatch q⟩
    · rw [q]; exact ⟨_, hTI, fun v q => nomatch q⟩
    · rw [q]; exact ⟨_, hTO, fun v q => nomatch q⟩
    · rw [q]; exact srcIt_obj h1
    · rw [q]; exact srcIt_obj h2
  keep := fun i h h' st k => by
    obtain ⟨hz, hTI, ⟨x, y, hTO⟩, h1, h2⟩ := st
    exact ⟨k z (by simp) _ hz, k TI (by simp) _ hTI, ⟨x, y, k TO (by simp) _ hTO⟩, srcIt_at h1 fun o q => k i1 (by simp) o q, srcIt_at h2 fun o q => k i2 (by simp) o q⟩
  item := by
    intro X hP hw hK hc i pins s σ H E I hf st hg
    subst hP hw hK
    obtain ⟨hz, hTI, ⟨x0, y0, hTO⟩, h1, h2⟩ := st
    obtain ⟨xs, ys, x, y, hqx, hqy, hx, hy⟩ := hg
    obtain ⟨P1, S1, D1⟩ := src_draws (A := X.A.in1) (I.ok.hd hc) I hqx n1
    obtain ⟨P2, S2, D2⟩ := src_draws (A := X.A.in1) (I.ok.hd hc) I hqy n2
    have hzl : z < s.heap.objs.size := Heap.lt_size hz
    refine wpAny_pyNext_zipD2_item D D1.dr D2.dr hz hTI hTO (D1.to i h1) (D2.to i h2) (List.getElem?_eq_some_iff.mp hx).1 (List.getElem?_eq_some_iff.mp hy).1 fun u v h' tk p1 p2 z' TO' h1' h2' hT hsz hk => ?_
    obtain ⟨x', ex', ru⟩ := D1.rel i u p1
    rw [hx] at ex'
    cases ex'
    obtain ⟨y', ey', rv⟩ := D2.rel i v p2
    rw [hy] at ey'
    cases ey'
    refine ⟨_, rfl, wpAny_letOwnedTupleGo_zip (s := { s with heap := h', toks := tk }) z' fun h'' z'' sb => ?_⟩
    have hT2 : h''.get? s.heap.objs.size = some { cls := .type "tuple", data := .seq #[u, v] } := (sb.2 _ (Nat.ne_of_gt hzl)).trans hT
    have new : ObjOk X.prog X.w (upd H s.heap.objs.size (.tup [x, y])) h'' s.heap.objs.size (.tup [x, y]) :=
      ⟨by show 2 ≤ sizeLine; decide, [u, v], .cons ru (.cons rv .nil), ⟨_, hT2, rfl, _, rfl⟩⟩
    have I1 : Inv X pins σ (upd H s.heap.objs.size (.tup [x, y])) { s with heap := h'', toks := tk } :=
      I.turnedNew (ch := [z, TI, TO, i1, i2]) (fun c o hb q => (sb.2 c (fun q' => hb (by simp [q']))).trans (hk c o (fun q' => hb (by simp [q'])) (fun q' => hb (by simp [q'])) (fun q' => hb (by simp [q'])) (fun q' => hb (by simp [q'])) q)) hf (Nat.le_refl _) new
    refine ⟨.ref s.heap.objs.size, _, I1, rfl, ⟨_, x, y, rfl, I.hok.fresh (Nat.le_refl _), rfl, fun l hl => by rw [src_inj I hl hqx]; exact hx, fun l hl => by rw [src_inj I hl hqy]; exact hy⟩, ⟨z'', ?_, ⟨u, v, ?_⟩, ?_, ?_⟩, fun c hcm => ?_⟩
    · exact (sb.2 _ D.TIz).trans (hk _ _ D.TIz D.TITO D.TIi1 D.TIi2 hTI)
    · exact (sb.2 _ D.TOz).trans TO'
    · exact srcIt_at (D1.fr _ _ h1') fun o q => (sb.2 _ (Ne.symm D.zi1)).trans q
    · exact srcIt_at (D2.fr _ _ h2') fun o q => (sb.2 _ (Ne.symm D.zi2)).trans q
    · have hlt : c < s.heap.objs.size := by
        have e' : c = z ∨ c = TI ∨ c = TO ∨ c = i1 ∨ c = i2 := by simpa using hcm
        rcases e' with q | q | q | q | q
        · rw [q]; exact hzl
        · rw [q]; exact Heap.lt_size hTI
        · rw [q]; exact Heap.lt_size hTO
        · rw [q]; obtain ⟨_, e1, _⟩ := srcIt_obj h1; exact Heap.lt_size e1
        · rw [q]; obtain ⟨_, e2, _⟩ := srcIt_obj h2; exact Heap.lt_size e2
      rw [upd_ne (Nat.ne_of_lt hlt)]
      exact (hf c hcm).1
  done := by
    intro X hP hw hK hc i pins s σ H E I hf st hg
    subst hP hw hK
    obtain ⟨hz, hTI, ⟨x0, y0, hTO⟩, h1, h2⟩ := st
    obtain ⟨xs, ys, hqx, hqy, l1, l2, hend⟩ := hg
    obtain ⟨P1, S1, D1⟩ := src_draws (A := X.A.in1) (I.ok.hd hc) I hqx n1
    obtain ⟨P2, S2, D2⟩ := src_draws (A := X.A.in1) (I.ok.hd hc) I hqy n2
    exact wpAny_pyNext_zipD2_end D D1.dr D2.dr hz hTI hTO (D1.to i h1) (D2.to i h2) l1 l2 hend fun h' tk hk => ⟨rfl, I.turnedL (t' := tk) (ch := [z, TI, TO, i1, i2]) (fun c o hb q =>
      hk c o (fun q' => hb (by simp [q'])) (fun q' => hb (by simp [q'])) (fun q' => hb (by simp [q'])) (fun q' => hb (by simp [q'])) q) hf⟩
  self := fun A i s Q E st h => wpAny_pyIter_zip st.1 h
/-- two lists, two tuples, one of each -/
def SrcOf (x : V) (src : Src) : Prop := ∃ a, x = .ref a ∧ (src = .lst a ∨ src = .tup a)
def iZipS (K : PySem.W.Frag) (ta : TA) : TI := fun σ H R => ta σ H fun vs H1 => ∃ x y a b xs ys, vs = [x, y] ∧ SrcOf x a ∧ SrcOf y b ∧ SrcAt K H1 a xs ∧ SrcAt K H1 b ys ∧ R (ItzS K a b) H1
/-- how it begins -/
def srcObj : Src → Obj
  | .lst a => { cls := .type "list_iterator", data := .fields #[.ref a, .int 0 0] }
  | .tup a => { cls := .type "tuple_iterator", data := .fields #[.ref a, .int 0 0] }
  | .txt x t => { cls := .type (strIterType x), data := .fields #[.str x t, .int 0 0] }
theorem src_begins {X : Cx} {pins : List (Addr × Obj)} {σ : St} {H : Hp} {s : Shared} {src : Src} {x : V} {u : Value} {xs : List V} (I : Inv X pins σ H s) (o : SrcOf x src) (q : SrcAt X.K H src xs) (r : RelV x u) :
    (∃ Hh, Begins u (srcObj src) Hh ∧ Hh s.heap) ∧ ∀ (h : Heap) (it : Addr), h.get? it = some (srcObj src) → srcIt src it 0 h := by
  obtain ⟨a, rfl, rfl | rfl⟩ := o
  · cases r
    obtain ⟨its, rv, p, _⟩ := I.list q
    exact ⟨⟨_, begins_list a its.toArray, p.isList⟩, fun h it e => ⟨_, e, rfl, rfl⟩⟩
  · cases r
    obtain ⟨its, rv, p, _⟩ := I.tuple q
    exact ⟨⟨_, begins_tuple a its.toArray, p⟩, fun h it e => ⟨_, e, rfl, rfl⟩⟩
theorem pi_zipS {X : Cx} {e e2 : Expr} {ta : TA} {p pos tpos : Pos} {elts : List Expr} {kk : Nat} (hg : Gl X "zip") (hm : X.mg "zip" = none) (ha : PA X [e, e2] ta)
    (hs : starEach [e, e2] X.env = (false, eval e X.env) :: starEach [e2] X.env := by rfl) (hpl : (backTo pos (starEach [e2] X.env)).any (·.1) = false := by rfl) :
    PI X (.Tuple elts kk tpos) (.Call (.Name "zip" p) [e, e2] [] pos) (iZipS X.K ta) := by
  refine ⟨fun pins s σ H R I h => ?_⟩
  refine PyProof.Rows.Call_ (ld_blt I hg hm PyProof.Rows.boot_zip (PyProof.Rows.callWith_type1 (thn (ha.run pos pins s σ H _ I h) fun us s1 ⟨vs, H1, I1, r1, q1⟩ => ?_) hs hpl))
  obtain ⟨x, y, a, b, xs, ys, ex, oa, ob, hqx, hqy, q⟩ := q1
  subst ex
  cases r1 with
  | cons r rr =>
    cases rr with
    | cons r' rr =>
      cases rr
      obtain ⟨⟨Ha, B1, hh1⟩, g1⟩ := src_begins I1 oa hqx r
      obtain ⟨⟨Hb, B2, hh2⟩, g2⟩ := src_begins I1 ob hqy r'
      refine zip_begins2 B1 B2 hh1 hh2 fun h' hz hTI hTO e1 e2 hsz hk => wpAny_pyIter_zip hz ?_
      have I2 : Inv X pins σ H1 { s1 with heap := h' } := I1.kept (t' := s1.toks) hk
      have fresh5 : ∀ c, c ∈ [s1.heap.objs.size + 4, s1.heap.objs.size + 2, s1.heap.objs.size + 3, s1.heap.objs.size, s1.heap.objs.size + 1] → FpOk X pins H1 c := fun c hcm => by
        have e' : c = s1.heap.objs.size + 4 ∨ c = s1.heap.objs.size + 2 ∨ c = s1.heap.objs.size + 3 ∨ c = s1.heap.objs.size ∨ c = s1.heap.objs.size + 1 := by simpa using hcm
        have hle : s1.heap.objs.size ≤ c := by
          rcases e' with z | z | z | z | z
          · rw [z]; exact Nat.le_add_right _ _
          · rw [z]; exact Nat.le_add_right _ _
          · rw [z]; exact Nat.le_add_right _ _
          · rw [z]; exact Nat.le_refl _
          · rw [z]; exact Nat.le_add_right _ _
        exact I1.fpOk hle (I1.hok.fresh hle)
      have o1 := src_old I1 hqx
      have o2 := src_old I1 hqy
      have ne1 : ∀ k, s1.heap.objs.size + k ∉ a.adr := fun k z => Nat.not_lt.mpr (Nat.le_add_right _ _) (o1 _ z)
      have ne2 : ∀ k, s1.heap.objs.size + k ∉ b.adr := fun k z => Nat.not_lt.mpr (Nat.le_add_right _ _) (o2 _ z)
      exact ⟨s1.heap.objs.size + 4, [s1.heap.objs.size + 4, s1.heap.objs.size + 2, s1.heap.objs.size + 3, s1.heap.objs.size, s1.heap.objs.size + 1], _, _, H1, rfl, I2, turn_zipS (zip_sep2 o1 o2) (ne1 0) (ne2 1), ⟨hz, hTI, ⟨_, _, hTO⟩, g1 _ _ e1, g2 _ _ e2⟩, fresh5, q⟩
end TR

set_option Elab.async false
set_option linter.all false
set_option maxRecDepth 100000
set_option maxHeartbeats 4000000
namespace TR
open PySem PySem.Spec L2
open PyProof.Rows (envOfC)

/-! ### enumerate, zip as runs -/
def enumP (n : Int) : List PV → List PV
  | [] => []
  | v :: r => .tup [.int n, v] :: enumP (n + 1) r
def zipP : List PV → List PV → List PV
  | a :: l, b :: m => .tup [a, b] :: zipP l m
  | _, _ => []
/-- a list that stands, a tuple -/
def seqF (v : PV) : Option (List PV) := match v with
  | .lst l => some l
  | .scr l => some l
  | .tup l => some l
  | _ => none
def iEnumR (fa : Ea) : Sl → Hh → Rs (List PV) := fun st h => (fa st h).bind fun as h1 => match as with
  | [.lst l] => .ok (enumP 0 l) h1
  | [.scr l] => .ok (enumP 0 l) h1
  | [.str x] => .ok (enumP 0 (chars x)) h1
  | _ => .bad
def iZipR (fa : Ea) : Sl → Hh → Rs (List PV) := fun st h => (fa st h).bind fun as h1 => match as with
  | [a, b] => match seqF a, seqF b with
    | some l, some m => .ok (zipP l m) h1
    | _, _ => .bad
  | _ => .bad
theorem enumP_len (l : List PV) : ∀ n, (enumP n l).length = l.length := by
  induction l with
  | nil => intro n; rfl
  | cons v r ih => intro n; simp [enumP, ih]
theorem enumP_get {l : List PV} : ∀ {n : Int} {i : Nat} {v}, l[i]? = some v → (enumP n l)[i]? = some (.tup [.int (n + i), v]) := by
  induction l with
  | nil => intro n i v e; simp at e
  | cons u r ih =>
    intro n i v e
    cases i with
    | zero => simp at e; subst e; simp [enumP]
    | succ i =>
      have e' : r[i]? = some v := by simpa using e
      have := ih (n := n + 1) e'
      simp only [enumP, List.getElem?_cons_succ]
      rw [this]
      have : n + 1 + (i : Int) = n + ((i + 1 : Nat) : Int) := by omega
      rw [this]
theorem zipP_len : ∀ l m : List PV, (zipP l m).length = min l.length m.length
  | [], _ => by simp [zipP]
  | _ :: _, [] => by simp [zipP]
  | a :: l, b :: m => by simp only [zipP, List.length_cons, zipP_len l m]; omega
theorem zipP_get : ∀ {l m : List PV} {i : Nat} {v u}, l[i]? = some v → m[i]? = some u → (zipP l m)[i]? = some (.tup [v, u])
  | a :: l, b :: m, 0, _, _, e1, e2 => by simp at e1 e2; subst e1 e2; rfl
  | a :: l, b :: m, i + 1, v, u, e1, e2 => by
    simp only [zipP, List.getElem?_cons_succ]
    exact zipP_get (by simpa using e1) (by simpa using e2)
  | [], _, _, _, _, e1, _ => by simp at e1
  | _ :: _, [], _, _, _, _, e2 => by simp at e2
section
variable {K : PySem.W.Frag} {cl : En} {μ : Mp} {h : Hh} {H : Hp}
theorem vrs_at {l xs} (r : VRs K cl μ h H l xs) {i : Nat} (hi : i < l.length) : ∃ v x, l[i]? = some v ∧ xs[i]? = some x ∧ VR K cl μ h H v x := by
  obtain ⟨x, e, q⟩ := VRs.get r (show l[i]? = some l[i] by simp [hi])
  exact ⟨_, x, by simp [hi], e, q⟩
theorem it_enumS {src : Src} {l : List PV} {xs : List V} (hq : ∀ μ' h' H', Grw μ h H μ' h' H' → SrcAt K H' src xs) (r : VRs K cl μ h H l xs) : ItR K cl μ h H (enumP 0 l) (IteS K src) := by
  intro μ' h' H' g S
  have q := hq μ' h' H' g
  have r' := VRs.grow g r
  rw [enumP_len]
  refine ⟨fun i hi => ?_, ⟨xs, q, (VRs.length r').symm⟩⟩
  obtain ⟨v, x, ev, ex, rv⟩ := vrs_at r' hi
  refine ⟨⟨xs, x, q, ex⟩, fun X H'' y => ?_⟩
  obtain ⟨T, x', rfl, hT, rfl, hx⟩ := y
  have e' := hx xs q
  rw [ex] at e'
  cases e'
  have gn : Grow μ' h' H' μ' h' (upd H' T (.tup [.int (i : Nat), x])) := grow_new hT
  refine ⟨gn, S.new hT, _, enumP_get ev, .tup (fz_new S hT) ?_⟩
  have e0 : (0 : Int) + (i : Int) = (i : Int) := by omega
  rw [e0]
  exact .cons .int (.cons (VR.grow gn.toGrw rv) .nil)
theorem it_zipS {a b : Src} {l m : List PV} {xs ys : List V} (hq : ∀ μ' h' H', Grw μ h H μ' h' H' → SrcAt K H' a xs ∧ SrcAt K H' b ys) (r : VRs K cl μ h H l xs) (t : VRs K cl μ h H m ys) : ItR K cl μ h H (zipP l m) (ItzS K a b) := by
  intro μ' h' H' g S
  obtain ⟨q1, q2⟩ := hq μ' h' H' g
  have r' := VRs.grow g r
  have t' := VRs.grow g t
  have hl := VRs.length r'
  have hm := VRs.length t'
  rw [zipP_len]
  refine ⟨fun i hi => ?_, ⟨xs, ys, q1, q2, by omega, by omega, by omega⟩⟩
  obtain ⟨v, x, ev, ex, rv⟩ := vrs_at r' (show i < l.length by omega)
  obtain ⟨u, y, eu, ey, ru⟩ := vrs_at t' (show i < m.length by omega)
  refine ⟨⟨xs, ys, x, y, q1, q2, ex, ey⟩, fun X H'' z => ?_⟩
  obtain ⟨T, x', y', rfl, hT, rfl, hx, hy⟩ := z
  have e' := hx xs q1
  rw [ex] at e'
  cases e'
  have e' := hy ys q2
  rw [ey] at e'
  cases e'
  have gn : Grow μ' h' H' μ' h' (upd H' T (.tup [x, y])) := grow_new hT
  exact ⟨gn, S.new hT, _, zipP_get ev eu, .tup (fz_new S hT) (.cons (VR.grow gn.toGrw rv) (.cons (VR.grow gn.toGrw ru) .nil))⟩
theorem seqF_src {v x l} (r : VR K cl μ h H v x) (e : seqF v = some l) : ∃ src xs, SrcOf x src ∧ VRs K cl μ h H l xs ∧ ∀ μ' h' H', Grw μ h H μ' h' H' → SrcAt K H' src xs := by
  cases r with
  | lst n f r => cases e; exact ⟨.lst _, _, ⟨_, rfl, .inl rfl⟩, r, fun μ' h' H' g => SqL.of (g.keep _ _ f n)⟩
  | scr f r => cases e; exact ⟨.lst _, _, ⟨_, rfl, .inl rfl⟩, r, fun μ' h' H' g => .inl (f.grow g).2⟩
  | kscr f r => cases e; exact ⟨.lst _, _, ⟨_, rfl, .inl rfl⟩, r, fun μ' h' H' g => .inr f⟩
  | tup f r => cases e; exact ⟨.tup _, _, ⟨_, rfl, .inr rfl⟩, r, fun μ' h' H' g => .inl (f.grow g).2⟩
  | ktup f r => cases e; exact ⟨.tup _, _, ⟨_, rfl, .inr rfl⟩, r, fun μ' h' H' g => .inr f⟩
  | _ => cases e
theorem vrs_chars (x : Str) : VRs K cl μ h H (chars x) (signV x) := by
  unfold chars signV
  generalize x.cps.toList = l
  induction l with
  | nil => exact .nil
  | cons c r ih => exact .cons .str ih
end
section
variable {X : Cx} {cl : En} {W : WX} {e e2 : Expr} {fa : Ea} {pos p tpos : Pos} {elts : List Expr} {kk : Nat}
theorem i_enum (hg : Gl X "enumerate") (hm : X.mg "enumerate" = none) (q : PA X [e] (taOf X.K cl W fa)) (hs : starEach [e] X.env = [(false, eval e X.env)] := by rfl) : PI X (.Tuple elts kk tpos) (.Call (.Name "enumerate" p) [e] [] pos) (tiOf X.K cl W (iEnumR fa)) :=
  PI.w (pi_enumS hg hm q hs) fun σ H R ⟨μ, st, h, S, L, k⟩ => ⟨μ, st, h, S, L, KO.seq k fun μ1 h1 H1 as x g1 S1 r1 k1 => by
    split at k1
    · obtain ⟨V, rfl, r2⟩ := vrs1 r1
      cases r2 with
      | lst n f r => exact .inl ⟨_, _, rfl, SqL.of f, KO.now (R := ItR X.K cl) S1 (it_enumS (src := .lst _) (fun μ' h' H' g => SqL.of (g.keep _ _ f n)) r) k1⟩
    · obtain ⟨V, rfl, r2⟩ := vrs1 r1
      cases r2 with
      | scr f r => exact .inl ⟨_, _, rfl, .inl f.2, KO.now (R := ItR X.K cl) S1 (it_enumS (src := .lst _) (fun μ' h' H' g => .inl (f.grow g).2) r) k1⟩
      | kscr f r => exact .inl ⟨_, _, rfl, .inr f, KO.now (R := ItR X.K cl) S1 (it_enumS (src := .lst _) (fun μ' h' H' g => .inr f) r) k1⟩
    · obtain ⟨V, rfl, r2⟩ := vrs1 r1
      cases r2 with
      | str => exact .inr ⟨_, rfl, fun t => KO.now (R := ItR X.K cl) S1 (it_enumS (src := .txt _ t) (fun μ' h' H' g => rfl) (vrs_chars _)) k1⟩
    · exact k1.elim⟩
theorem i_zip (hg : Gl X "zip") (hm : X.mg "zip" = none) (q : PA X [e, e2] (taOf X.K cl W fa)) (hs : starEach [e, e2] X.env = (false, eval e X.env) :: starEach [e2] X.env := by rfl) (hpl : (backTo pos (starEach [e2] X.env)).any (·.1) = false := by rfl) :
    PI X (.Tuple elts kk tpos) (.Call (.Name "zip" p) [e, e2] [] pos) (tiOf X.K cl W (iZipR fa)) :=
  PI.w (pi_zipS hg hm q hs hpl) fun σ H R ⟨μ, st, h, S, L, k⟩ => ⟨μ, st, h, S, L, KO.seq k fun μ1 h1 H1 as x g1 S1 r1 k1 => by
    split at k1
    · obtain ⟨V, U, rfl, r2, r3⟩ := vrs2 r1
      split at k1
      · rename_i l m e1 e2
        obtain ⟨a, xs, oa, ra, qa⟩ := seqF_src r2 e1
        obtain ⟨b, ys, ob, rb, qb⟩ := seqF_src r3 e2
        exact ⟨_, _, a, b, xs, ys, rfl, oa, ob, qa _ _ _ (Grow.refl _ _ _).toGrw, qb _ _ _ (Grow.refl _ _ _).toGrw, KO.now (R := ItR X.K cl) S1 (it_zipS (fun μ' h' H' g => ⟨qa _ _ _ g, qb _ _ _ g⟩) ra rb) k1⟩
      · exact k1.elim
    · exact k1.elim⟩
end

/-! ### freezing -/
/-- what a thing with an id is, once it changes no more -/
def frzO : Ob → Option PV
  | .lst l => some (.lst l)
  | .dct l => some (.dct l)
  | .dcn l => some (.dcn l)
  | _ => none
def frzV (v : PV) (h : Hh) : Option (PV × Hh) := match v with
  | .ref i => match h[i]? with
    | some o => (frzO o).map fun u => (u, h.set i .gone)
    | none => none
  | _ => none
def xFrzA (f : Ex) : Ex := fun st h => (f st h).bind fun v h1 => match frzV v h1 with
  | some (u, h2) => .ok u h2
  | none => .bad
/-- the slot i is frozen -/
def sFrz (i : Nat) : Sx := fun st h => match st[i]? with
  | some (some v) => match frzV v h with
    | some (u, h2) => .nx (st.set i (some u)) h2
    | none => .bad
  | _ => .bad
section
variable {K : PySem.W.Frag} {cl : En} {μ : Mp} {h : Hh} {H : Hp}
theorem frz_ok {v u x h2} (S : Sim K cl μ h H) (r : VR K cl μ h H v x) (e : frzV v h = some (u, h2)) : Grow μ h H μ h2 H ∧ Sim K cl μ h2 H ∧ VR K cl μ h2 H u x := by
  unfold frzV at e
  split at e
  · rename_i i
    split at e
    · rename_i o e1
      obtain ⟨w, ew, ez⟩ := Option.map_eq_some_iff.mp e
      cases ez
      cases r with
      | ref q =>
        have ng : o ≠ .gone := fun z => by subst z; cases ew
        obtain ⟨gw, Sg, nl⟩ := grow_gone S q e1 ng
        refine ⟨gw, Sg, ?_⟩
        cases S.at q e1 with
        | lst hp rl => cases ew; exact .lst nl hp (VRs.grow gw.toGrw rl)
        | dK hp ek nd rl => cases ew; exact .dct nl hp ek nd (VRs.grow gw.toGrw rl)
        | dN hp ek rk rl => cases ew; exact .dctN nl hp ek (VRs.grow gw.toGrw rk) (VRs.grow gw.toGrw rl)
        | ins hp a b => cases ew
        | gone a => cases ew
    · cases e
  · cases e
end
theorem st_same {σ : St} {i : Nat} {x : V} (e : σ[i]? = some (some x)) : σ.set i (some x) = σ := by
  obtain ⟨hi, e1⟩ := List.getElem?_eq_some_iff.mp e
  rw [← e1]
  exact List.set_getElem_self hi
section
variable {X : Cx} {cl : En} {W : WX} {e : Expr} {f : Ex} {rest : List Stmt} {s : Sx}
theorem e_frzA (q : PE X e (teOf X.K cl W f)) : PE X e (teOf X.K cl W (xFrzA f)) :=
  PE.w q fun σ H Q ⟨μ, st, h, S, L, k⟩ => ⟨μ, st, h, S, L, KO.seq k fun μ1 h1 H1 a x g1 S1 r1 k1 => by
    split at k1
    · rename_i u h2 e1
      obtain ⟨g, S2, r2⟩ := frz_ok S1 r1 e1
      exact k1 μ1 H1 x g S2 r2
    · exact k1.elim⟩
theorem s_frz (i : Nat) (q : PSs X rest (tsOf X.K cl W s)) : PSs X rest (tsOf X.K cl W (sSeq (sFrz i) s)) :=
  PSs.w q fun D σ H ⟨μ, st, h, S, L, k⟩ => by
    have k' : SO X.K cl W μ h H (match sFrz i st h with | .nx st1 h1 => s st1 h1 | r => r) D := k
    unfold sFrz at k'
    cases e1 : st[i]? with
    | none => simp only [e1] at k'; exact k'.elim
    | some o =>
      cases o with
      | none => simp only [e1] at k'; exact k'.elim
      | some v =>
        simp only [e1] at k'
        cases e2 : frzV v h with
        | none => simp only [e2] at k'; exact k'.elim
        | some p =>
          obtain ⟨u, h2⟩ := p
          simp only [e2] at k'
          obtain ⟨x, ex, rx⟩ := L.at_ i v e1
          obtain ⟨g, S2, r2⟩ := frz_ok S rx e2
          refine ⟨μ, st.set i (some u), h2, S2, ?_, SO.grow g k'⟩
          have L2 := (L.grow g.toGrw).set i r2
          rw [st_same ex] at L2
          exact L2
end
end TR

set_option Elab.async false
set_option linter.all false
set_option maxRecDepth 100000
set_option maxHeartbeats 4000000
namespace TR
open PySem PySem.Spec L2
open PyProof.Rows (envOfC IntsAre)

/-! ### set(xs), xs a list of ints -/
abbrev eSet (w : World) : Obj := { cls := .type "set", dict := none, data := .set #[] 0 (.fresh 0 0 (!w.params.followText "set-order")) }
section
variable {P : Program} {w : World} {A : Around} {E : Value → Shared → Prop} {s : Shared}
/-- what set.__init__ leaves -/
def SetDone (w : World) (s : Shared) (ns : List Int) (r : Value) (s2 : Shared) : Prop :=
  r = .none ∧ ∃ h' tk c, s2 = { s with heap := h', toks := tk } ∧ SetR w h' s.heap.objs.size (fun j => decide (j ∈ ns)) c ∧ c ≤ ns.length ∧ ∀ b o, s.heap.get? b = some o → h'.get? b = some o
set_option maxHeartbeats 3200000 in
theorem set_of_list {l : Addr} {items : Array Value} (ns : List Int) {Q : Value → Shared → Prop} (hh : A.handled = none) (hl : s.heap.IsList l items) (hit : IntsAre items.toList ns) (hb : ns.length + 1 < scanBound)
    (h : ∀ (h' : Heap) (tk c : Nat), SetR w h' s.heap.objs.size (fun j => decide (j ∈ ns)) c → c ≤ ns.length → (∀ b o, s.heap.get? b = some o → h'.get? b = some o) → Q (.ref s.heap.objs.size) { s with heap := h', toks := tk }) :
    wpAny (model P w) A (call (.type "set") [.ref l]) Q E s := by
  have size : items.size = ns.length := by have q := IntsAre.length hit; rwa [Array.length_toList] at q
  obtain ⟨c, tl, hmro⟩ := F.called_set.mro
  have f1 := F.called_set.made
  have f2 := F.called_set.sub
  refine wpAny_call (codeAny_of_tree (show wpAny _ _ (callAny (.type "set") _) _ _ _ from wpAny_pure ⟨Code.quiet_builtin _ (by decide +kernel), codeAny_builtin F.entry_type_call ?_⟩))
  rw [Around.under_plain (weight_type_call_type "set" [.ref l] []) rfl]
  have f3 := F.called_set.notType
  have f4 := F.called_set.canCreate
  have f5 := F.typeCall_set_1 (.ref l)
  repeat (any_goals (first | assumption | wp_step))
  refine codeAny_mono (code_set_led1 (.ref l) (E := E) (Q₁ := fun obj s₁ => obj = .ref s.heap.objs.size ∧ s₁ = { s with heap := s.heap.push (eSet w) }) ⟨rfl, rfl⟩) fun r s₁ hr => ?_
  cases r with
  | error e => exact hr
  | ok fl =>
    cases fl with
    | ret obj =>
      obtain ⟨rfl, rfl⟩ := hr
      have new : (s.heap.push (eSet w)).get? s.heap.objs.size = some (eSet w) := Heap.get?_push_size _ rfl
      have ty : Shared.TypeIs { s with heap := s.heap.push (eSet w) } (.ref s.heap.objs.size) "set" := ⟨_, new, rfl⟩
      have f6 := F.called_set.init.lookup
      have f7 := F.called_set.init.bind (.ref s.heap.objs.size)
      repeat (any_goals (first | assumption | wp_step))
      refine codeAny_mono (codeAny_call_builtin (R := wants (SetDone w s ns) E) F.called_set.init.plain F.entry_set_init (check_set_init_1 ty ?_)) fun r₂ s₂ hr₂ => ?_
      · obtain ⟨⟨oc, od, ob, os⟩, hol, hcl, nl, hdl⟩ := hl
        replace hcl : oc = .type "list" := hcl
        replace hdl : ob = .seq items nl := hdl
        subst hcl hdl
        have hol' := Heap.get?_push_of_some (eSet w) hol
        have g1 := F.sub_list_set
        have g2 := F.sub_list_frozenset
        have g3 : (Value.type "list" == Value.type "dict") = false := by decide
        have lst : (s.heap.push (eSet w)).IsList l items := ⟨_, hol', rfl, nl, rfl⟩
        unfold Builtin.«set.__init__» noKeywords Builtin.Frozenset.updateFrom
        generalize hPI : pyIter = PI
        wp_walk
        subst hPI
        refine wpAny_pyIter_list lst (wpAny_bind (wpAny_runValue ?_))
        have ll : l < s.heap.objs.size := Heap.lt_size hol
        have sz : (s.heap.push (eSet w)).objs.size = s.heap.objs.size + 1 := Heap.size_push ..
        have off : l ≠ (s.heap.push (eSet w)).objs.size := by rw [sz]; exact Nat.ne_of_lt (Nat.lt_succ_of_lt ll)
        have apart : s.heap.objs.size ∉ [(s.heap.push (eSet w)).objs.size, l] := by
          rw [sz]; simp only [List.mem_cons, List.not_mem_nil, or_false, not_or]
          exact ⟨Nat.ne_of_lt (Nat.lt_succ_self _), Nat.ne_of_gt ll⟩
        have vals : ∀ (i : Nat) (v : Value), items[i]? = some v → ∃ k t, ns[i]? = some k ∧ v = .int k t := fun i v hv => by
          have hi : i < ns.length := by rw [← size]; exact (Array.getElem?_eq_some_iff.mp hv).1
          obtain ⟨t, e⟩ := PyProof.Rows.IntsAre.int_at hit i v (by rw [Array.getElem?_toList]; exact hv)
          exact ⟨ns[i], t, List.getElem?_eq_getElem hi, by rw [e, List.getD_eq_getElem?_getD, List.getElem?_eq_getElem hi] <;> rfl⟩
        refine set_update_ints ((Walks.list (by simp [hh]) _ l off items).toS) s.heap.objs.size apart ns size hb vals (items.size - 0) 0 _ (by omega) (Nat.zero_le _) ⟨⟨_, Heap.get?_push_size _ rfl, rfl, rfl⟩, lst.push _⟩ ⟨0, Nat.le_refl 0, setR_new_at (Heap.get?_push_of_some _ new)⟩ ?_
        intro s' c' hm hc' hS'
        obtain ⟨h', g2, d', tk', os'⟩ := s'
        obtain rfl : g2 = s.gens := hm.gens
        obtain rfl : d' = s.drawn := hm.drawn
        obtain rfl : os' = s.os := hm.os
        show wpAny _ _ _ _ _ _
        refine wpAny_pure ?_
        show wpAny _ _ (ret Value.none) _ _ _
        rw [size] at hc'
        refine wpAny_pure ⟨rfl, h', tk', c', rfl, hS', hc', fun b o e => hm.heap b o ?_ (Heap.get?_push_of_some _ (Heap.get?_push_of_some _ e))⟩
        have lt : b < s.heap.objs.size := Heap.lt_size e
        simp only [List.mem_cons, List.not_mem_nil, or_false, not_or]
        exact ⟨Nat.ne_of_lt lt, by rw [sz]; exact Nat.ne_of_lt (Nat.lt_succ_of_lt lt)⟩
      · cases r₂ with
        | error e => exact hr₂
        | ok fl₂ =>
          cases fl₂ with
          | ret r =>
            obtain ⟨rfl, h', tk, c', rfl, hS', hc', hk'⟩ := hr₂
            repeat (any_goals (first | assumption | wp_step))
            exact h _ _ _ hS' hc' hk'
          | _ => exact hr₂.elim
    | _ => exact hr.elim
end
end TR

set_option Elab.async false
set_option linter.all false
set_option maxRecDepth 100000
set_option maxHeartbeats 4000000
namespace TR
open PySem PySem.Spec L2
open PyProof.Rows (envOfC IntsAre)

/-! ### sorted(set(xs)) -/
def insD (k : Int) : List Int → List Int
  | [] => [k]
  | a :: r => if k < a then k :: a :: r else if k = a then a :: r else a :: insD k r
def sortD (l : List Int) : List Int := l.foldr insD []
theorem mem_insD {k j : Int} : ∀ {l : List Int}, j ∈ insD k l ↔ j = k ∨ j ∈ l
  | [] => by simp [insD]
  | a :: r => by
    unfold insD
    split
    · simp
    · split
      · rename_i h; subst h; simp
      · simp only [List.mem_cons, mem_insD (l := r)]
        constructor
        · rintro (h | h | h) <;> simp [h]
        · rintro (h | h | h) <;> simp [h]
theorem asc_insD {k : Int} : ∀ {l : List Int}, l.Pairwise (· < ·) → (insD k l).Pairwise (· < ·)
  | [], _ => by simp [insD]
  | a :: r, h => by
    have h' := h
    rw [List.pairwise_cons] at h
    unfold insD
    split
    · rename_i hk
      rw [List.pairwise_cons]
      refine ⟨fun b hb => ?_, h'⟩
      rcases List.mem_cons.mp hb with e | e
      · subst e; exact hk
      · exact Int.lt_trans hk (h.1 b e)
    · split
      · exact h'
      · rename_i h1 h2
        rw [List.pairwise_cons]
        refine ⟨fun b hb => ?_, asc_insD h.2⟩
        rcases mem_insD.mp hb with e | e
        · subst e; omega
        · exact h.1 b e
theorem mem_sortD {j : Int} : ∀ {l : List Int}, j ∈ sortD l ↔ j ∈ l
  | [] => by simp [sortD]
  | a :: r => by
    have ih := mem_sortD (j := j) (l := r)
    show j ∈ insD a (sortD r) ↔ _
    rw [mem_insD, ih, List.mem_cons]
theorem asc_sortD : ∀ l : List Int, (sortD l).Pairwise (· < ·)
  | [] => List.Pairwise.nil
  | a :: r => asc_insD (asc_sortD r)
theorem asc_eq : ∀ {l m : List Int}, l.Pairwise (· < ·) → m.Pairwise (· < ·) → (∀ k, k ∈ l ↔ k ∈ m) → l = m
  | [], [], _, _, _ => rfl
  | [], b :: m, _, _, h => by have := (h b).mpr List.mem_cons_self; cases this
  | a :: l, [], _, _, h => by have := (h a).mp List.mem_cons_self; cases this
  | a :: l, b :: m, h1, h2, h => by
    rw [List.pairwise_cons] at h1 h2
    have e : a = b := by
      rcases List.mem_cons.mp ((h a).mp List.mem_cons_self) with e | e
      · exact e
      · rcases List.mem_cons.mp ((h b).mpr List.mem_cons_self) with e' | e'
        · exact e'.symm
        · have x := h2.1 a e
          have y := h1.1 b e'
          omega
    subst e
    have t : l = m := asc_eq h1.2 h2.2 fun k => by
      constructor
      · intro hk
        rcases List.mem_cons.mp ((h k).mp (List.mem_cons_of_mem _ hk)) with e | e
        · have := h1.1 k hk; omega
        · exact e
      · intro hk
        rcases List.mem_cons.mp ((h k).mpr (List.mem_cons_of_mem _ hk)) with e | e
        · have := h2.1 k hk; omega
        · exact e
    rw [t]
theorem nodup_len : ∀ {l m : List Int}, l.Nodup → m.Nodup → (∀ k, k ∈ l ↔ k ∈ m) → l.length = m.length := by
  intro l m h1 h2 h
  exact (List.perm_ext_iff_of_nodup h1 h2 |>.mpr h).length_eq
theorem asc_nodup {l : List Int} (h : l.Pairwise (· < ·)) : l.Nodup := h.imp fun {a b} z => by omega
theorem setR_card {w : World} {h : Heap} {a : Addr} {ns : List Int} {c : Nat} (R : SetR w h a (fun j => decide (j ∈ ns)) c) : c = (sortD ns).length := by
  obtain ⟨o, es, ep, t, _, _, _, _, nd, mem, _, _, hz, _, _⟩ := R
  have hl : (es.toList.map keyOf).length = c := by simp [hz]
  rw [← hl]
  refine nodup_len nd (asc_nodup (asc_sortD ns)) fun k => ?_
  rw [mem_sortD, ← mem k]
  simp
section
variable {X : Cx}
def rSetL (K : PySem.W.Frag) (w : World) : List V → Hp → VK → Prop := fun vs H Q => ∃ (l : Addr) (ns : List Int), vs = [V.ref l] ∧ SqL K H l (ns.map V.int) ∧ ns.length + 1 < scanBound ∧
  ∀ p, H p = none → Q (.ref p) (upd H p (SetO w p (fun j => decide (j ∈ ns)) (sortD ns).length))
theorem cr_setL (hc : X.calm = true) : CallR X (.type "set") (rSetL X.K X.w) := by
  intro pins s σ H xs us Q I r h
  obtain ⟨l, ns, rfl, hq, hb, q⟩ := h
  rw [Vals.ref1 r]
  obtain ⟨its, rv, p, _⟩ := I.list hq
  refine set_of_list ns (I.ok.hd hc) p.isList (by simpa using ints_of_vals rv) hb fun h' tk c R hc' hk => ?_
  have hn : H s.heap.objs.size = none := I.hok.fresh (Nat.le_refl _)
  have e := setR_card R
  rw [e] at R
  exact ⟨.ref s.heap.objs.size, _, I.laid (t' := tk) hk (Nat.le_refl _) (setO_new R), rfl, q _ hn⟩
end
end TR

set_option Elab.async false
set_option linter.all false
set_option maxRecDepth 100000
set_option maxHeartbeats 4000000
namespace TR
open PySem PySem.Spec L2
open PyProof.Rows (envOfC IntsAre)

def xSortSet (fa : Ea) : Ex := fun st h => (fa st h).bind fun as h1 => match as with
  | [v] => match (asLm v h1).bind intsOf with
    | some ns => if ns.length + 1 < scanBound ∧ (sortD ns).length < 64 then .ok (.lst ((sortD ns).map .int)) h1 else .bad
    | none => .bad
  | _ => .bad
section
variable {X : Cx} {cl : En} {W : WX} {e : Expr} {fa : Ea} {p p2 pos q : Pos}
theorem vrs_ints {K μ h H} : ∀ ns : List Int, VRs K cl μ h H (ns.map .int) (ns.map V.int)
  | [] => .nil
  | _ :: r => .cons .int (vrs_ints r)
theorem e_sortset (hc : X.calm = true) (hg : Gl X "sorted") (hm : X.mg "sorted" = none) (hg2 : Gl X "set") (hm2 : X.mg "set" = none) (ha : PA X [e] (taOf X.K cl W fa))
    (na : starEach [e] X.env = (false, eval e X.env) :: starEach [] X.env := by rfl) (nb : starEach [.Call (.Name "set" p2) [e] [] q] X.env = (false, eval (.Call (.Name "set" p2) [e] [] q) X.env) :: starEach [] X.env := by rfl) : PE X (.Call (.Name "sorted" p) [.Call (.Name "set" p2) [e] [] q] [] pos) (teOf X.K cl W (xSortSet fa)) := by
  have inner : PE X (.Call (.Name "set" p2) [e] [] q) (tCB (rSetL X.K X.w) (taOf X.K cl W fa)) := pe_callTy (cr_setL hc) hg2 hm2 PyProof.Rows.boot_set ha (by decide) (by decide) na rfl
  have whole := pe_callB (x := "sorted") (p := p) (pos := pos) (cr_sortedSet hc) hg hm PyProof.Rows.boot_sorted (pa_cons inner pa_nil nb) (by decide) (by decide) nb rfl
  refine PE.w whole fun σ H Q ⟨μ, st, h, S, L, k⟩ => ⟨μ, st, h, S, L, KO.seq k fun μ1 h1 H1 as AS g1 S1 r1 k1 => ?_⟩
  split at k1
  · rename_i v
    obtain ⟨V, rfl, r2⟩ := vrs1 r1
    split at k1
    · rename_i ns en
      obtain ⟨l, e1, e2⟩ := Option.bind_eq_some_iff.mp en
      obtain ⟨a, xs, rfl, hp, rl⟩ := asLm_ok S1 r2 e1
      have ex := ints_ok e2 rl
      subst ex
      split at k1
      · rename_i hb
        refine ⟨a, ns, rfl, SqL.of hp, hb.1, fun d hd => ?_⟩
        refine ⟨d, _, _, rfl, upd_same, hb.2, fun ms p' h1' h2' h3' h4' => ?_⟩
        have em : ms = sortD ns := asc_eq h1' (asc_sortD ns) fun k => by rw [h2' k, mem_sortD]; simp
        subst em
        have g2 : Grow μ1 h1 H1 μ1 h1 (upd H1 d (SetO X.w d (fun j => decide (j ∈ ns)) (sortD ns).length)) := grow_new hd
        have S2 := S1.new (o := SetO X.w d (fun j => decide (j ∈ ns)) (sortD ns).length) hd
        exact KO.lst S2 (vrs_ints _) (KO.grow g2 k1) p' h4'
      · exact k1.elim
    · exact k1.elim
  · exact k1.elim
end

/-! ### lists put together, with an id; a text repeated -/
def gCatLI (a b : PV) (h : Hh) : Rs PV := match asLm a h, asLm b h with
  | some l, some m => if l.length + m.length ≤ sizeLine then .ok (.ref h.length) (h ++ [.lst (l ++ m)]) else .bad
  | _, _ => .bad
section
variable {K : PySem.W.Frag} {cl : En} {μ : Mp} {h : Hh} {H : Hp}
theorem v_catLI : VOp K cl gCatLI rCat := by
  intro μ h H a b A B W σ Q S ra rb k
  unfold gCatLI at k
  split at k
  · rename_i l m e1 e2
    obtain ⟨p, xs, rfl, hp, r1⟩ := asLm_ok S ra e1
    obtain ⟨q, ys, rfl, hq, r2⟩ := asLm_ok S rb e2
    split at k
    · rename_i hl
      exact ⟨p, q, xs, ys, rfl, rfl, hp, hq, by rw [← VRs.length r1, ← VRs.length r2]; exact hl, KO.lstI S (VRs.append r1 r2) k⟩
    · exact k.elim
  · exact k.elim
end
end TR

set_option Elab.async false
set_option linter.all false
set_option maxRecDepth 100000
set_option maxHeartbeats 4000000
namespace TR
open PySem PySem.Spec L2
open PyProof.Rows (envOfC)

/-! ### a text repeated -/
def repS (x : Str) (n : Nat) : Str := ⟨(List.replicate n x.cps.toList).flatten.toArray⟩
theorem foldl_app {α : Type} (a : Array α) : ∀ (n : Nat) (b : Array α), (List.replicate n a).foldl (· ++ ·) b = b ++ (List.replicate n a.toList).flatten.toArray
  | 0, b => by simp
  | n + 1, b => by
    rw [List.replicate_succ, List.foldl_cons, foldl_app a n, List.replicate_succ, List.flatten_cons]
    apply Array.ext'
    simp
theorem txt_mul (x : Str) (n : Int) : Txt.mul x n = repS x n.toNat := by
  unfold Txt.mul repS
  split
  · rename_i h
    have : n.toNat = 0 := by omega
    rw [this]
    rfl
  · rename_i h
    split
    · rename_i h2
      rcases Bool.or_eq_true_iff.mp h2 with e | e
      · have : n.toNat = 1 := by
          have := beq_iff_eq.mp e
          omega
        rw [this]
        cases x
        simp
      · have e1 : x.cps.size = 0 := beq_iff_eq.mp e
        cases x with
        | mk c =>
          have e2 : c = #[] := Array.eq_empty_of_size_eq_zero e1
          subst e2
          simp
    · congr 1
      rw [foldl_app]
      simp
def gRepS (a b : PV) (h : Hh) : Rs PV := match a, b with
  | .str x, .int n => if -(2 ^ 63) ≤ n ∧ n < 2 ^ 63 ∧ x.length * n.toNat ≤ sizeLine then .ok (.str (repS x n.toNat)) h else .bad
  | _, _ => .bad
def rRepS : R2 := fun x y H Q => ∃ z n, x = .str z ∧ y = .int n ∧ MulOk z n ∧ Q (.str (Txt.mul z n)) H
theorem mulOk {x : Str} {n : Int} (h1 : -(2 ^ 63) ≤ n) (h2 : n < 2 ^ 63) (h3 : x.length * n.toNat ≤ sizeLine) : MulOk x n := by
  refine ⟨?_, fun h _ z => ?_, fun h _ => ?_⟩
  · simp only [Bool.or_eq_false_iff, decide_eq_false_iff_not]
    omega
  · have hn : 0 < n := by omega
    have h4 : ((x.length * n.toNat : Nat) : Int) ≤ sizeLine := Int.ofNat_le.mpr h3
    have h5 : ((n.toNat : Nat) : Int) = n := Int.toNat_of_nonneg (by omega)
    rw [Int.natCast_mul, h5] at h4
    have h6 : (x.length : Int) ≤ (2 ^ 63 - 1) / n := by
      rw [Int.le_ediv_iff_mul_le hn]
      refine Int.le_trans h4 ?_
      rw [sizeLine_eq]
      decide
    omega
  · show decide (_ > sizeLine) = false
    simpa using h3
section
variable {X : Cx} {K : PySem.W.Frag} {cl : En} {μ : Mp} {h : Hh} {H : Hp}
theorem op_repS : OpR X (binaryOp .Mult) rRepS := by
  intro pins s σ H x y v u Q I rx ry h
  obtain ⟨z, n, rfl, rfl, ok, q⟩ := h
  obtain ⟨t, rfl⟩ := rx
  obtain ⟨t2, rfl⟩ := ry
  exact SB.mul ok fun t' k => ⟨.str (Txt.mul z n), H, I.tok _, ⟨t', rfl⟩, q⟩
theorem v_repS : VOp K cl gRepS rRepS := by
  intro μ h H a b A B W σ Q S ra rb k
  unfold gRepS at k
  split at k
  · rename_i x n
    cases ra
    cases rb
    split at k
    · rename_i hh
      refine ⟨x, n, rfl, rfl, mulOk hh.1 hh.2.1 hh.2.2, ?_⟩
      rw [txt_mul]
      exact KO.now (R := rV K cl) S .str k
    · exact k.elim
  · exact k.elim
end
end TR

set_option Elab.async false
set_option linter.all false
set_option maxRecDepth 100000
set_option maxHeartbeats 4000000
namespace TR
open PySem PySem.Spec L2
open PyProof.Rows (envOfC)

/-! ### what the module's top wrote: constants, tables -/
/-- the dict at a holds what the table tells -/
def KTab (K : PySem.W.Frag) (cl : En) (a : Addr) (tab : List (Str × PV)) : Prop := ∀ x v, tab.lookup x = some v → ∃ V, KDct K cl.w a x V ∧ ∀ μ h H, VR K cl μ h H v V
def xTab (tab : List (Str × PV)) (f : Ex) : Ex := fun st h => (f st h).bind fun v h1 => match v with
  | .str x => match tab.lookup x with
    | some u => .ok u h1
    | none => .bad
  | _ => .bad
section
variable {X : Cx} {cl : En} {W : WX} {i : Expr} {f : Ex} {x : Str} {a : Addr} {tab : List (Str × PV)} {v : PV} {V : V} {u : Value} {pos p : Pos}
theorem e_glob (hg : Gl X x) (hm : X.mg x = some u) (r : RelV V u) (q : ∀ μ h H, VR X.K cl μ h H v V) (hd : (x == ("__debug__" : Str)) = false := by decide) : PE X (.Name x pos) (teOf X.K cl W (xC v)) :=
  e_c (pe_glob hg hm r hd) q
theorem e_tab (E : Same2 X cl) (hg : Gl X x) (hm : X.mg x = some (.ref a)) (T : KTab X.K cl a tab) (q : PE X i (teOf X.K cl W f)) (hs : NoSl i) (hd : (x == ("__debug__" : Str)) = false := by decide) : PE X (.Subscript (.Name x p) i pos) (teOf X.K cl W (xTab tab f)) :=
  PE.w (pe_ix ix_kdict (pe_glob (v := .ref a) hg hm rfl hd) q hs) fun σ H Q ⟨μ, st, h, S, L, k⟩ => ⟨μ, st, h, S, L, KO.seq k fun μ1 h1 H1 b y g1 S1 r1 k1 => by
    split at k1
    · rename_i z
      cases r1 with
      | str =>
        split at k1
        · rename_i w e
          obtain ⟨V', kd, rv⟩ := T _ _ e
          rw [E.w] at kd
          exact ⟨a, z, V', rfl, rfl, kd, KO.now (R := rV X.K cl) S1 (rv μ1 h1 H1) k1⟩
        · exact k1.elim
    · exact k1.elim⟩
end
end TR

set_option Elab.async false
set_option linter.all false
set_option maxRecDepth 100000
set_option maxHeartbeats 4000000
namespace TR
open PySem PySem.Spec L2
open PyProof.Rows (envOfC)

/-! ### {(..): e} -/
def xDisp1 (fk fv : Ex) : Ex := fun st h => match fk st h with
  | .ok q h1 => match fv st h1, nkey q with
    | .ok v h2, some _ => .ok (.ref h2.length) (h2 ++ [.dcn [(q, v)]])
    | _, _ => .bad
  | _ => .bad
def tDisp1 (K : PySem.W.Frag) (cl : En) (tk tv : TE) : TE := fun σ H Q => ∀ p, H p = none → tk σ (upd H p (dnO cl.P cl.w p [])) fun x H1 => tv σ H1 fun y H2 => H2 p = some (dnO cl.P cl.w p []) ∧ ∃ b k, x = .ref b ∧ NK K H2 k x ∧ k.depth ≤ 8 ∧ Q (.ref p) (upd H2 p (dnO cl.P cl.w p [(k, b, y)]))
section
variable {X : Cx} {cl : En} {W : WX} {k v : Expr} {tk tv : TE} {fk fv : Ex} {pos : Pos}
theorem pe_disp1 (E : Same2 X cl) (hu : X.A.units + 16 < cLine) (hk : PE X k tk) (hv : PE X v tv) : PE X (.Dict [some k] [v] pos) (tDisp1 X.K cl tk tv) := by
  refine ⟨fun pins s σ H Q I q => ?_⟩
  have hn := I.hok.fresh (Nat.le_refl s.heap.objs.size)
  have big : (s.heap.objs.size == sysModules) = false := beq_eq_false_iff_ne.mpr (Ne.symm (Nat.ne_of_lt I.big))
  have I1 : Inv X pins σ (upd H s.heap.objs.size (dnO cl.P cl.w s.heap.objs.size [])) { s with heap := s.heap.push { cls := .type "dict", data := .dict #[] } } := I.laid (t' := s.toks) (fun _ _ q => Heap.get?_push_of_some _ q) (Nat.le_refl _) (by
    rw [E.P, E.w]
    exact dn_new (Nat.zero_le _) big .nil (Heap.DictOfH.new s.heap))
  have shape := zip_pairTrees [some k] [v] X.env pos rfl rfl
  have room : (nestedKind X.prog X.w).room X.A := by
    show X.A.units + 8 < cLine
    omega
  rw [arm_eval_Dict, shape, dictDisplay_pairs _ (by intro z; cases z) (by show 1 < 17; decide)]
  refine wpAny_bind (wpAny_standAt (wpAny_bind (wpAny_subDictH (knd := nestedKind X.prog X.w) (Q := fun d s' => wpAny (model X.prog X.w) X.A (pure (Value.ref d)) (EP X pins σ Q) X.xe s') room (by show 1 ≤ 15; decide) ?_)))
  refine pairTrees_cons_walk (thn (hk.run pins _ σ _ _ I1 (q _ hn)) fun u s1 z1 => ?_)
  obtain ⟨x, H1, I1, rx, q1⟩ := z1
  refine thn (hv.run pins s1 σ H1 _ I1 q1) fun r s2 z2 => pairTrees_nil_walk ?_
  obtain ⟨y, H2, I2, ry, e, b, kk, ex, nk, dp, q2⟩ := z2
  subst ex
  obtain rfl : u = Value.ref b := rx
  obtain ⟨_, _, xs0, pr0, d0⟩ := dn_at E.P E.w I2 e (fun z hz => by cases hz)
  cases pr0
  refine ⟨[(kk, b, r)], ⟨rfl, rfl, ⟨NK.is I2 _ _ _ nk rfl, dp⟩, trivial⟩, d0, fun h' tk dk hs => wpAny_pure ?_⟩
  have he : ∃ q, h'.get? s.heap.objs.size = some q := by
    obtain ⟨q, _, _, hq, _⟩ := dk
    exact ⟨q, hq⟩
  have pr : Paired PX (esPut [] kk b y) (storedH [] kk b r) := put_px ry (by simp) .nil
  refine ⟨.ref s.heap.objs.size, _, d_write (ob := dnO cl.P cl.w s.heap.objs.size [(kk, b, y)]) I2 (by rw [e]; exact trivial) hs he ?_, rfl, q2⟩
  rw [E.P, E.w]
  exact dn_new (by show 1 ≤ sizeLine; rw [sizeLine_eq]; decide) big pr dk
theorem e_disp1 (E : Same2 X cl) (hu : X.A.units + 16 < cLine) (hk : PE X k (teOf X.K cl W0 fk)) (hv : PE X v (teOf X.K cl W0 fv)) : PE X (.Dict [some k] [v] pos) (teOf X.K cl W (xDisp1 fk fv)) :=
  PE.w (pe_disp1 E hu hk hv) fun σ H Q ⟨μ, st, h, S, L, kk⟩ D hD => by
    have notR : D ∉ μ.res := fun z => by
      obtain ⟨⟨u, q⟩, _⟩ := S.rs D z
      rw [hD] at q; cases q
    have gh : Grw μ h H (μ.hold D) h (upd H D (dnO cl.P cl.w D [])) := grw_hold hD
    refine ⟨μ.hold D, st, h, S.hold hD, L.grow gh, ?_⟩
    have kk' := kk
    unfold xDisp1 at kk'
    cases e1 : fk st h with
    | exc c fs h1 =>
      simp only [e1] at kk'
      exact kk'.elim
    | bad => simp only [e1] at kk'; exact kk'.elim
    | ok q h1 =>
      simp only [e1] at kk'
      intro μ1 H1 x g1 S1 r1
      refine ⟨μ1, st, h1, S1, (L.grow gh).grow g1.toGrw, ?_⟩
      cases e2 : fv st h1 with
      | exc c fs h2 =>
        simp only [e2] at kk'
        exact kk'.elim
      | bad => simp only [e2] at kk'; exact kk'.elim
      | ok v h2 =>
        simp only [e2] at kk'
        intro μ2 H2 y g2 S2 r2
        have inD1 : D ∈ μ1.res := by rw [g1.res]; exact List.mem_cons_self
        have inD2 : D ∈ μ2.res := by rw [g2.res]; exact inD1
        have hr2 : μ2.res = D :: μ.res := g2.res.trans g1.res
        have eD2 := g2.rk D inD1 _ (g1.rk D List.mem_cons_self _ upd_same)
        cases e3 : nkey q with
        | none => simp only [e3] at kk'; exact kk'.elim
        | some k0 =>
          simp only [e3] at kk'
          have r1' := VR.grow g2.toGrw r1
          obtain ⟨b, rfl, nk, dp⟩ := key_ok r1' e3
          refine ⟨eD2, b, k0, rfl, nk, dp, ?_⟩
          have gw : Grw μ2 h2 H2 μ2 h2 (upd H2 D (dnO cl.P cl.w D [(k0, b, y)])) := ⟨fun _ _ e => e, fun _ x => .inl x, fun p o e n => by
            rw [upd_ne (show p ≠ D from fun z => n (by rw [z]; exact .inl inD2))]; exact e⟩
          have nD : D ∉ μ2.ids := (S2.rs D inD2).2
          have S3 : Sim X.K cl μ2 h2 (upd H2 D (dnO cl.P cl.w D [(k0, b, y)])) := S2.grw gw rfl (fun a ha => upd_ne fun z => nD (z ▸ ha)) fun a ha => by
            by_cases ha' : a = D
            · subst ha'; exact ⟨⟨_, upd_same⟩, nD⟩
            · rw [upd_ne ha']; exact S2.rs a ha
          have hrr : ∀ a, a ∈ μ.res → a ∈ μ2.res := fun a ha => by rw [hr2]; exact List.mem_cons_of_mem _ ha
          have gg := grw_give (H := upd H2 D (dnO cl.P cl.w D [(k0, b, y)])) (ob := .dcn [(q, v)]) S3.len inD2 hrr
          refine kk' (μ2.give D μ.res) _ (.ref D) ⟨gh.trans (g1.toGrw.trans (g2.toGrw.trans (gw.trans gg))), rfl, fun a ha u e => ?_⟩ (S3.give inD2 hrr notR (.dN upd_same (by simp [e3]) (.cons (VR.grow (gw.trans gg) r1') .nil) (.cons (VR.grow (gw.trans gg) r2) .nil))) (.ref (give_ref S3.len))
          rw [upd_ne fun z : a = D => by subst z; exact notR ha]
          exact g2.rk a (by rw [g1.res]; exact List.mem_cons_of_mem _ ha) u (g1.rk a (List.mem_cons_of_mem _ ha) u (by rw [upd_ne (ne_of_none e hD)]; exact e))
end
end TR

set_option Elab.async false
set_option linter.all false
set_option maxRecDepth 100000
set_option maxHeartbeats 4000000
namespace TR
open PySem PySem.Spec L2
open PyProof.Rows (envOfC)

/-! ### own exceptions with fields -/
section
variable {X : Cx} {cl : En} {W : WX} {e : Expr} {es : List Expr} {ta : TA} {x : Str} {p1 p2 pos : Pos} {C : Addr} {mc : Value}
/-- C.__init__(self, ..), C over ValueError without an own one -/
theorem pe_kinit {pl : Sem Bool} (hg : Gl X x) (hm : X.mg x = some (.ref C)) (r : ClX.CRead X.K C mc) (vV : PySem.W.findCls X.K (.ref C) mc "__init__" = some (.val (.builtin "ValueError.__init__"))) (ha : PA X (e :: es) ta)
    (hc : eval (.Call (.Attribute (.Name x p1) "__init__" p2) (e :: es) [] pos) X.env = (do
      let v ← eval (.Name x p1) X.env
      standAt p2.atName
      let (f, first) ← holding [v] (getMethod v "__init__" pl)
      callWith pos f first (backTo pos (starEach (e :: es) X.env)) (backToKw pos (keywordEach [] X.env))) := by rfl)
    (hdb : (x == ("__debug__" : Str)) = false := by decide) (he : starEach (e :: es) X.env = (false, eval e X.env) :: starEach es X.env := by rfl) (hpl : (backTo pos (starEach es X.env)).any (·.1) = false := by rfl) :
    PE X (.Call (.Attribute (.Name x p1) "__init__" p2) (e :: es) [] pos) (tVeI X.K ta) := by
  refine ⟨fun pins s σ H Q I h => ?_⟩
  refine PySem.W.methodCall_KW (ld_glob I hg hm ?_ hdb) hc
  refine PySem.W.method_cls I.kIn r.ga (PySem.W.cls_value I.kIn r.rd vV (by rfl) ?_)
  show wpAny _ _ (callWith pos (Value.builtin "ValueError.__init__") [] (backTo pos (starEach (e :: es) X.env)) []) _ _ _
  refine PyProof.Rows.callWith_method1 (thn (ha.run pos pins _ σ H _ (I.tok _) h) fun us s1 z => ?_) he hpl
  obtain ⟨vs, H1, I1, r1, a, C', ws, ev, hl, T, ea, q⟩ := z
  subst ev
  cases r1 with
  | @cons _ u0 _ ur ra rw' =>
    obtain rfl : u0 = Value.ref a := ra
    exact oinit_ok T I1 ea (by rw [← Paired.length rw', sizeLine_eq]; omega) fun s' J => ⟨.non, H1, J, rfl, q⟩
end

/-- the fields, copied and put one by one -/
def cpF (g : List PV → Hh → Rs PV) (st : Sl) : List (Str × Nat) → List (Str × PV) → Hh → Option (List (Str × PV) × Hh)
  | [], acc, h => some (acc, h)
  | (f, i) :: r, acc, h => match xCall g (aCons (xVar i) aNil) st h with
    | .ok y h1 => if acc.length ≤ 900 then cpF g st r ((f, y) :: acc) h1 else none
    | _ => none
def tPut (K : PySem.W.Frag) (cl : En) (g : List PV → Hh → Rs PV) : List (Str × Nat) → TS
  | [] => tNext
  | (f, i) :: r => tSeq (tOst K f (tVar 0) (teOf K cl W0 (xCall g (aCons (xVar i) aNil)))) (tPut K cl g r)
/-- an exception at a, its dict at dx -/
structure ExAt (K : PySem.W.Frag) (cl : En) (μ0 : Mp) (h0 : Hh) (H0 : Hp) (a C dx : Addr) (μ : Mp) (h : Hh) (H : Hp) (acc : List (Str × PV)) (fs : List (Str × V)) : Prop where
  sim : Sim K cl μ h H
  res : μ.res = dx :: a :: μ0.res
  grw : Grw μ0 h0 H0 μ h H
  rk : ∀ b, b ∈ μ0.res → ∀ u, H0 b = some u → H b = some u
  ea : H a = some (exo a C (some dx))
  ed : H dx = some (exd dx fs)
  nm : acc.map (·.1) = fs.map (·.1)
  vs : VRs K cl μ h H (acc.map (·.2)) (fs.map (·.2))
  da : H0 a = none
  dd : H0 dx = none
  ne : dx ≠ a
section
variable {K : PySem.W.Frag} {cl : En} {μ0 μ : Mp} {h0 h : Hh} {H0 H : Hp} {a C dx : Addr} {acc : List (Str × PV)} {fs : List (Str × V)} {g : List PV → Hh → Rs PV} {σ : St} {st : Sl} {D : Ends}
/-- a reserved object is written -/
theorem Sim.wres {o : HO} (S : Sim K cl μ h H) (m : a ∈ μ.res) : Grw μ h H μ h (upd H a o) ∧ Sim K cl μ h (upd H a o) := by
  have gw : Grw μ h H μ h (upd H a o) := ⟨fun _ _ e => e, fun _ x => .inl x, fun p u e n => by
    rw [upd_ne (show p ≠ a from fun z => n (by rw [z]; exact .inl m))]; exact e⟩
  have na : a ∉ μ.ids := (S.rs a m).2
  refine ⟨gw, S.grw gw rfl (fun b hb => upd_ne fun z => na (z ▸ hb)) fun b hb => ?_⟩
  by_cases hb' : b = a
  · subst hb'; exact ⟨⟨_, upd_same⟩, na⟩
  · rw [upd_ne hb']; exact S.rs b hb
/-- further fields -/
theorem put_more (T : OexC K C) : ∀ (fl : List (Str × Nat)), (∀ f i, (f, i) ∈ fl → PySem.W.findIn K (.ref C) f = some none) → ∀ (μ : Mp) (h : Hh) (H : Hp) (acc acc' : List (Str × PV)) (fs : List (Str × V)) (h' : Hh), ExAt K cl μ0 h0 H0 a C dx μ h H acc fs → StR K cl μ h H st σ → σ[0]? = some (some (.ref a)) →
    cpF g st fl acc h = some (acc', h') → (∀ μ' H' fs', ExAt K cl μ0 h0 H0 a C dx μ' h' H' acc' fs' → D.nx σ H') → tPut K cl g fl D σ H
  | [], _, μ, h, H, acc, acc', fs, h', x, L, e0, ec, fin => by
    cases ec
    exact fin μ H fs x
  | (f, i) :: r, hf, μ, h, H, acc, acc', fs, h', x, L, e0, ec, fin => by
    unfold cpF at ec
    cases e1 : xCall g (aCons (xVar i) aNil) st h with
    | exc c fs h1 => rw [e1] at ec; cases ec
    | bad => rw [e1] at ec; cases ec
    | ok y h1 =>
      rw [e1] at ec
      dsimp only at ec
      split at ec
      · rename_i hl
        refine ⟨μ, st, h, x.sim, L, ?_⟩
        rw [e1]
        intro μ1 H1 Y g1 S1 r1
        refine ⟨_, e0, a, C, rfl, T, hf f i List.mem_cons_self, .inr ⟨dx, fs, ?_, ?_, ?_, ?_⟩⟩
        · exact g1.rk a (by rw [x.res]; simp) _ x.ea
        · exact g1.rk dx (by rw [x.res]; simp) _ x.ed
        · have := congrArg List.length x.nm
          simp at this
          omega
        · have m : dx ∈ μ1.res := by rw [g1.res, x.res]; simp
          obtain ⟨gw, S2⟩ := S1.wres (o := exd dx ((f, Y) :: fs)) m
          have nda : a ≠ dx := Ne.symm x.ne
          refine put_more T r (fun f i hm => hf f i (List.mem_cons_of_mem _ hm)) μ1 h1 _ ((f, y) :: acc) acc' ((f, Y) :: fs) h' ⟨S2, g1.res.trans x.res, (x.grw.trans g1.toGrw).trans gw, fun b hb u e => ?_, ?_, upd_same, by simp [x.nm], .cons (VR.grow gw r1) (VRs.grow (g1.toGrw.trans gw) x.vs), x.da, x.dd, x.ne⟩ ((L.grow g1.toGrw).grow gw) e0 ec fin
          · have hbd : b ≠ dx := fun z => by
              rw [z, x.dd] at e
              cases e
            rw [upd_ne hbd]
            exact g1.rk b (by rw [x.res]; simp [hb]) u (x.rk b hb u e)
          · rw [upd_ne nda]
            exact g1.rk a (by rw [x.res]; simp) _ x.ea
      · cases ec
/-- the first field, then the further ones -/
theorem put_all (T : OexC K C) (f : Str) (i : Nat) (r : List (Str × Nat)) (hf : ∀ f' i', (f', i') ∈ (f, i) :: r → PySem.W.findIn K (.ref C) f' = some none) {μ0 : Mp} {h0 : Hh} {H0 : Hp} {acc' : List (Str × PV)} {h' : Hh} (S0 : Sim K cl μ0 h0 H0) (ha : H0 a = none)
    (L : StR K cl μ0 h0 H0 st σ) (e0 : σ[0]? = some (some (.ref a))) (ec : cpF g st ((f, i) :: r) [] h0 = some (acc', h')) (fin : ∀ dx μ' H' fs', ExAt K cl μ0 h0 H0 a C dx μ' h' H' acc' fs' → D.nx σ H') :
    tPut K cl g ((f, i) :: r) D σ (upd H0 a (exo a C none)) := by
  unfold cpF at ec
  cases e1 : xCall g (aCons (xVar i) aNil) st h0 with
  | exc c fs h1 => rw [e1] at ec; cases ec
  | bad => rw [e1] at ec; cases ec
  | ok y h1 =>
    rw [e1] at ec
    dsimp only at ec
    rw [if_pos (show ([] : List (Str × PV)).length ≤ 900 from Nat.zero_le _)] at ec
    have gh : Grw μ0 h0 H0 (μ0.hold a) h0 (upd H0 a (exo a C none)) := grw_hold ha
    refine ⟨μ0.hold a, st, h0, S0.hold ha, L.grow gh, ?_⟩
    rw [e1]
    intro μ1 H1 Y g1 S1 r1
    have ea1 := g1.rk a List.mem_cons_self _ upd_same
    refine ⟨_, e0, a, C, rfl, T, hf f i List.mem_cons_self, .inl ⟨ea1, fun dx hdx hne => ?_⟩⟩
    have hr1 : μ1.res = a :: μ0.res := g1.res
    have hd0 : H0 dx = none := by
      cases q : H0 dx with
      | none => rfl
      | some o =>
        exfalso
        by_cases l : Live μ0 h0 dx
        · rcases l with l | ⟨j, oj, e2, e3, ng⟩
          · have := g1.rk dx (List.mem_cons_of_mem _ l) o (by rw [upd_ne hne]; exact q)
            rw [hdx] at this; cases this
          · have m1 := g1.pre j dx e2
            obtain ⟨u, hu⟩ := S1.mem (List.mem_of_getElem? m1)
            rw [hdx] at hu; cases hu
        · have nl : ¬ Live (μ0.hold a) h0 dx := fun z => by
            rcases z with z | z
            · rcases List.mem_cons.mp z with z | z
              · exact hne z
              · exact l (.inl z)
            · exact l (.inr z)
          have := g1.keep dx o (by rw [upd_ne hne]; exact q) nl
          rw [hdx] at this; cases this
    have inA : a ∈ μ1.res := by rw [hr1]; exact List.mem_cons_self
    obtain ⟨gw, S2⟩ := S1.wres (o := exo a C (some dx)) inA
    have e2 : upd (upd H1 dx (exd dx [(f, Y)])) a (exo a C (some dx)) = upd (upd H1 a (exo a C (some dx))) dx (exd dx [(f, Y)]) := by
      funext b
      by_cases h1 : b = a
      · subst h1
        rw [upd_same, upd_ne (Ne.symm hne), upd_same]
      · by_cases h2 : b = dx
        · subst h2
          rw [upd_ne h1, upd_same, upd_same]
        · rw [upd_ne h1, upd_ne h2, upd_ne h2, upd_ne h1]
    have hdx2 : upd H1 a (exo a C (some dx)) dx = none := by rw [upd_ne hne]; exact hdx
    have gd : Grw μ1 h1 (upd H1 a (exo a C (some dx))) (μ1.hold dx) h1 (upd (upd H1 a (exo a C (some dx))) dx (exd dx [(f, Y)])) := grw_hold hdx2
    have gg := g1.toGrw.trans (gw.trans gd)
    show tPut K cl g r D σ _
    rw [e2]
    refine put_more T r (fun f i hm => hf f i (List.mem_cons_of_mem _ hm)) (μ1.hold dx) h1 _ [(f, y)] acc' [(f, Y)] h' ⟨S2.hold hdx2, by show dx :: μ1.res = _; rw [hr1], gh.trans gg, fun b hb u e => ?_, by rw [upd_ne (Ne.symm hne), upd_same], upd_same, rfl, .cons (VR.grow (gw.trans gd) r1) .nil, ha, hd0, hne⟩ ((L.grow gh).grow gg) e0 ec (fun μ' H' fs' x => fin dx μ' H' fs' x)
    have hba : b ≠ a := ne_of_none e ha
    have hbd : b ≠ dx := ne_of_none e hd0
    rw [upd_ne hbd, upd_ne hba]
    exact g1.rk b (List.mem_cons_of_mem _ hb) u (by rw [upd_ne hba]; exact e)
/-- the exception leaves: what stays -/
theorem ex_out {c : Nat} (S0 : Sim K cl μ0 h0 H0) (x : ExAt K cl μ0 h0 H0 a (cl.ca c) dx μ h H acc fs) : ∃ μ', Grow μ0 h0 H0 μ' h (upd (del H a) dx (.xd fs)) ∧ Sim K cl μ' h (upd (del H a) dx (.xd fs)) ∧ ExOk K cl μ' h (upd (del H a) dx (.xd fs)) c acc (.ref (cl.ca c)) (some dx) := by
  have inA : a ∈ μ.res := by rw [x.res]; simp
  have inD : dx ∈ μ.res := by rw [x.res]; simp
  have nA := (x.sim.rs a inA).2
  have nD := (x.sim.rs dx inD).2
  have at_ : ∀ {b : Addr}, b ≠ a → b ≠ dx → (upd (del H a) dx (.xd fs)) b = H b := fun {b} h1 h2 => by rw [upd_ne h2, del_ne h1]
  have gw : Grw μ h H ⟨μ.ids, μ0.res⟩ h (upd (del H a) dx (.xd fs)) := ⟨fun _ _ e => e, fun b l => by
    rcases l with l | l
    · exact .inl (.inl (by rw [x.res]; exact List.mem_cons_of_mem _ (List.mem_cons_of_mem _ l)))
    · exact .inl (.inr l), fun p u e n => by
    rw [at_ (fun z => n (by rw [z]; exact .inl inA)) (fun z => n (by rw [z]; exact .inl inD))]; exact e⟩
  have ndr : dx ∉ μ0.res := fun z => by
    obtain ⟨⟨u, q⟩, _⟩ := S0.rs dx z
    rw [x.dd] at q
    cases q
  refine ⟨⟨μ.ids, μ0.res⟩, ⟨x.grw.trans gw, rfl, fun b hb u e => ?_⟩, x.sim.grw gw rfl (fun b hb => at_ (fun z => nA (z ▸ hb)) (fun z => nD (z ▸ hb))) fun b hb => ?_, rfl, .inr ⟨dx, fs, rfl, fun l => ?_, upd_same, x.nm, VRs.grow gw x.vs⟩⟩
  · rw [at_ (ne_of_none e x.da) (ne_of_none e x.dd)]
    exact x.rk b hb u e
  · obtain ⟨⟨u, q⟩, n⟩ := x.sim.rs b (by rw [x.res]; exact List.mem_cons_of_mem _ (List.mem_cons_of_mem _ hb))
    obtain ⟨⟨u0, q0⟩, _⟩ := S0.rs b hb
    exact ⟨⟨u, by rw [at_ (ne_of_none q0 x.da) (ne_of_none q0 x.dd)]; exact q⟩, n⟩
  · rcases l with l | ⟨j, o, e1, _⟩
    · exact ndr l
    · exact nD (List.mem_of_getElem? e1)
end
end TR

set_option Elab.async false
set_option linter.all false
set_option maxRecDepth 100000
set_option maxHeartbeats 4000000
namespace TR
open PySem PySem.Spec L2
open PyProof.Rows (envOfC)

/-! ### __init__ of an own exception, raise -/
def spEx (K : PySem.W.Frag) (cl : En) (c : Nat) (m n : Nat) (g : List PV → Hh → Rs PV) (fl : List (Str × Nat)) : Sp := fun vs H Q E =>
  ∃ (a : Addr) (rest : List V) (μ0 : Mp) (h0 : Hh) (H0 : Hp) (as : List PV) (acc : List (Str × PV)) (h' : Hh), vs = .ref a :: rest ∧ as.length = m ∧ H0 a = none ∧ H = upd H0 a (exo a (cl.ca c) none) ∧ Sim K cl μ0 h0 H0 ∧ VRs K cl μ0 h0 H0 as rest ∧
    cpF g (none :: startS n as) fl [] h0 = some (acc, h') ∧ ∀ dx μ H' fs, ExAt K cl μ0 h0 H0 a (cl.ca c) dx μ h' H' acc fs → Q .non H'
section
variable {P : Program} {w : World} {K : PySem.W.Frag} {cl : En} {mg : Str → Option Value} {base : Heap}
theorem str_cons {μ : Mp} {h : Hh} {H : Hp} {st : Sl} {σ : St} {o : Option V} (L : StR K cl μ h H st σ) : StR K cl μ h H (none :: st) (o :: σ) := by
  refine ⟨by simp [L.len], fun i v e => ?_⟩
  cases i with
  | zero => simp at e
  | succ i => simpa using L.at_ i v (by simpa using e)
theorem exOk {x qual : Str} {params : Arguments} {body : List Stmt} {scope : Scope} {dvs : List V} {kws : List (Str × V)} {f : Addr} {fd : FuncData} {N' ps : List Str} {s0 : Str} {k c m n : Nat} {g : List PV → Hh → Rs PV} {msg : Str} {f1 : Str} {i1 : Nat} {fl : List (Str × Nat)} (F : FunD K x qual params body scope dvs kws f fd) (S : FnScope (s0 :: N') (s0 :: ps) scope) (hm : m = ps.length) (hn : n = N'.length)
    (T : OexC K (cl.ca c)) (hf : ∀ f' i', (f', i') ∈ (f1, i1) :: fl → PySem.W.findIn K (.ref (cl.ca c)) f' = some none)
    (hbody : ∀ (cdv : Value) (A : Around) (outer : List Env) (sh : Shared) (H : Hp) (E : XK), Room k (A.deeper (envOfC qual scope sh.heap.objs.size f cdv)) →
      PSs (cxOf (L2.CX P w) P w K mg base (s0 :: N') qual scope f cdv A outer sh H E) body (tSeq (tDrop (tVeI K (tCons (tVar 0) (tCons (tC (.str msg)) tNil)))) (tPut K cl g ((f1, i1) :: fl)))) : FnOk P w K mg base (L2.CX P w) (k + 1) f fd (s0 :: ps) (spEx K cl c m n g ((f1, i1) :: fl)) := by
  refine F.ok S (fun vs H Q E h => ?_) (fun cdv A outer sh H vs Q E hr h => ⟨_, hbody cdv A outer sh H E hr, ?_⟩)
  · obtain ⟨a, rest, μ0, h0, H0, as, acc, h', rfl, hl, _, _, _, r, _⟩ := h
    simp [← VRs.length r, hl, hm]
  · obtain ⟨a, rest, μ0, h0, H0, as, acc, h', rfl, hl, ha, rfl, S0, r, ec, fin⟩ := h
    have e0 : (L2.start (s0 :: N') (.ref a :: rest))[0]? = some (some (.ref a)) := by simp [L2.start]
    refine ⟨_, e0, a, cl.ca c, [.str msg], rfl, by show 1 ≤ 1000; decide, T, upd_same, ?_⟩
    have L : StR K cl μ0 h0 H0 (none :: startS n as) (L2.start (s0 :: N') (.ref a :: rest)) := by
      have := str_cons (o := some (.ref a)) (str_start (K := K) (cl := cl) (N := N') hn r)
      have es : L2.start (s0 :: N') (.ref a :: rest) = some (.ref a) :: L2.start N' rest := by
        simp [L2.start]
      rw [es]
      exact this
    exact put_all T f1 i1 fl hf S0 ha L e0 ec fun dx μ' H' fs' x => fin dx μ' H' fs' x
end
/-- raise C(..) -/
def sRaise (c n : Nat) (g : List PV → Hh → Rs PV) (fl : List (Str × Nat)) (fa : Ea) : Sx := fun st h => (fa st h).toS st fun as h1 => match cpF g (none :: startS n as) fl [] h1 with
  | some (acc, h2) => .exc c acc st h2
  | none => .bad
section
variable {X : Cx} {cl : En} {W : WX} {e : Expr} {es : List Expr} {fa : Ea} {pos p pos2 : Pos} {x : Str} {fA : Addr} {fd : FuncData} {ps : List Str} {k n m c : Nat} {g : List PV → Hh → Rs PV} {fl : List (Str × Nat)}
theorem s_raise (hcm : X.calm = true) (tk : Takes X W) (T : OexC X.K (cl.ca c)) (iC : PySem.W.findIn X.K (.ref (cl.ca c)) "__init__" = some (some (.ref fA))) (tI : PySem.W.typeIn X.K (.ref fA) = some (.type "function"))
    (F : FnOk X.prog X.w X.K X.mg X.base (L2.CX X.prog X.w) k fA fd ps (spEx X.K cl c m n g fl)) (hr : Room (k + 1) X.A) (hb : Binds X.K fd ps []) (hx : Passes (L2.CX X.prog X.w) X (fun _ _ _ => False)) (hg : Gl X x) (hm : X.mg x = some (.ref (cl.ca c))) (ha : PA X (e :: es) (taOf X.K cl W fa))
    (hl : (e :: es).length = m) (hm10 : m ≤ 1000) (hfa : ∀ st h as h1, fa st h = .ok as h1 → as.length = m)
    (hdb : (x == ("__debug__" : Str)) = false := by decide) (he : starEach (e :: es) X.env = (false, eval e X.env) :: starEach es X.env := by rfl) (hpl : (backTo pos (starEach es X.env)).any (·.1) = false := by rfl) :
    PS X (.Raise (some (.Call (.Name x p) (e :: es) [] pos)) none pos2) (tsOf X.K cl W (sRaise c n g fl fa)) :=
  PS.w (ps_raise hcm tk (pmk_oex T iC tI F hr hb .nil hx hg hm ha hdb he hpl)) fun D σ H ⟨μ, st, h, S, L, q⟩ => by
    refine ⟨μ, st, h, S, L, ?_⟩
    have q' : SO X.K cl W μ h H ((fa st h).toS st fun as h1 => match cpF g (none :: startS n as) fl [] h1 with | some (acc, h2) => .exc c acc st h2 | none => .bad) D := q
    cases e1 : fa st h with
    | exc cc fs h1 =>
      rw [e1] at q'
      exact fun μ1 H1 cls d g1 S1 x => q' μ1 H1 σ cls d g1 S1 (L.grow g1.toGrw) x
    | bad => rw [e1] at q'; exact q'.elim
    | ok as h1 =>
      rw [e1] at q'
      intro μ1 H1 vs g1 S1 r1
      have hal := hfa st h as h1 e1
      have q2 : SO X.K cl W μ h H (match cpF g (none :: startS n as) fl [] h1 with | some (acc, h2) => .exc c acc st h2 | none => .bad) D := q'
      cases e2 : cpF g (none :: startS n as) fl [] h1 with
      | none => rw [e2] at q2; exact q2.elim
      | some z =>
        obtain ⟨acc, h2⟩ := z
        rw [e2] at q2
        refine ⟨by rw [← VRs.length r1, hal]; exact hm10, fun a han => ?_⟩
        rw [List.append_nil]
        refine ⟨a, vs, μ1, h1, H1, as, acc, h2, rfl, hal, han, rfl, S1, r1, e2, fun dx μ' H' fs xx => ⟨rfl, dx, fs, xx.ea, xx.ed, xx.dd, ?_⟩⟩
        obtain ⟨μ2, g2, S2, ex⟩ := ex_out S1 xx
        have gg := g1.trans g2
        exact q2 μ2 _ σ _ _ gg S2 (L.grow gg.toGrw) ex
end
end TR

set_option Elab.async false
set_option linter.all false
set_option maxRecDepth 100000
set_option maxHeartbeats 4000000
namespace TR
open PySem PySem.Spec L2
open PyProof.Rows (envOfC)

/-! ### y = [e for ..], y = {k: v for ..} -/
theorem sw_trueD {kx vx : Expr} {gs : List Comprehension} {scope : Scope} {pos py : Pos} {y : Str} {l : Nat} {env : Env} (hk : env.scope.kind = .function) (hy : env.scope.names.lookup y = some .local) (hl : (py.line == pos.line) = true)
    (ha : (scope.names.any fun (n, k) => n == y && (k == .local || k == .cell)) = false) : swapsWith (.DictComp kx vx gs scope pos) (some (.Name y py)) l env = pure true := by
  have k1 : env.kindOf y = some .local := hy
  have k2 : env.blockKind = .function := by unfold Env.blockKind; rw [hk]; rfl
  unfold swapsWith
  simp only [k2, k1, ha, Expr.pos, hl]
  rfl
section
variable {X : Cx} {cl : En} {W : WX} {elt kx vx tg iter : Expr} {ifs : List Expr} {scope : Scope} {own : List (Str × Nat)} {ft : Eb} {fk fe : Ex} {fi : Sl → Hh → Rs (List PV)} {t : Tg} {pos spos py : Pos} {i : Nat} {y : Str}
theorem s_setLc (hc : X.calm = true) (hN : X.N.Nodup) (hy : X.N[i]? = some y) (hyl : X.env.scope.names.lookup y = some .local) (hsw : swapsWith (.ListComp elt [⟨tg, iter, ifs, 0⟩] scope pos) (some (.Name y py)) spos.line X.env = pure true) (hi : PI X tg iter (tiOf X.K cl W fi)) (ok : BlkOk X.N X.env.scope scope own) (hv : tgIn (own.map (·.2)) t = true)
    (hg : ∀ (s : Shared) (H : Hp) (C : Addr) (cc : List (Str × Addr)) (fp : List Addr), PG (X.blk s H scope (compEnvC scope cc C X.env) fp) tg (gT X.K t)) (ht : ∀ (s : Shared) (H : Hp) (C : Addr) (cc : List (Str × Addr)) (fp : List Addr), PTs (X.blk s H scope (compEnvC scope cc C X.env) fp) ifs (ttOf X.K cl W0 ft))
    (he : ∀ (s : Shared) (H : Hp) (C : Addr) (cc : List (Str × Addr)) (fp : List Addr), PE (X.blk s H scope (compEnvC scope cc C X.env) fp) elt (teOf X.K cl W0 fe)) (hs : ∀ x, foldedSetIterable iter X.env x = pure x := by intro _; rfl) :
    PS X (.Assign [.Name y py] (.ListComp elt [⟨tg, iter, ifs, 0⟩] scope pos) spos) (tsOf X.K cl W (sSet i (xLc fi t ft fe (own.map (·.2))))) :=
  PS.w (ps_setLc hc hN hy hyl hsw hi ok hg ht he hs) fun D σ H ⟨μ, st, h, S, L, k⟩ => by
    have k' : SO X.K cl W μ h H (((fi st h).bind fun l h1 => (lcL t ft fe (wipeS st (own.map (·.2))) l [] h1).bind fun acc h2 => .ok (.lst acc) h2).toS st fun v h1 => .nx (st.set i (some v)) h1) D := k
    refine ⟨μ, st, h, S, L, ?_⟩
    have q : KO X.K cl (rV X.K cl) W μ h H σ ((fi st h).bind fun l h1 => (lcL t ft fe (wipeS st (own.map (·.2))) l [] h1).bind fun acc h2 => .ok (.lst acc) h2) (fun x H1 => gName i x σ H1 D.nx) :=
      SO.seq L k' fun μ1 h1 H1 a x g1 S1 L1 r1 k1 => k1 μ1 H1 (σ.set i (some x)) (Grow.refl _ _ _) S1 (L1.set i r1)
    exact KO.seq q fun μ1 h1 H1 l J g1 S1 r1 k1 D' hD => lc_turns hv S1 (L.grow g1.toGrw) r1 hD k1
theorem ps_setDc {wi : TI} {g : TG} {tt : TT} {tk te : TE} (hc : X.calm = true) (hN : X.N.Nodup) (hy : X.N[i]? = some y) (hyl : X.env.scope.names.lookup y = some .local) (hsw : swapsWith (.DictComp kx vx [⟨tg, iter, ifs, 0⟩] scope pos) (some (.Name y py)) spos.line X.env = pure true) (hi : PI X tg iter wi) (ok : BlkOk X.N X.env.scope scope own)
    (hg : ∀ (s : Shared) (H : Hp) (C : Addr) (cc : List (Str × Addr)) (fp : List Addr), PG (X.blk s H scope (compEnvC scope cc C X.env) fp) tg g) (ht : ∀ (s : Shared) (H : Hp) (C : Addr) (cc : List (Str × Addr)) (fp : List Addr), PTs (X.blk s H scope (compEnvC scope cc C X.env) fp) ifs tt)
    (hk : ∀ (s : Shared) (H : Hp) (C : Addr) (cc : List (Str × Addr)) (fp : List Addr), PE (X.blk s H scope (compEnvC scope cc C X.env) fp) kx tk)
    (he : ∀ (s : Shared) (H : Hp) (C : Addr) (cc : List (Str × Addr)) (fp : List Addr), PE (X.blk s H scope (compEnvC scope cc C X.env) fp) vx te) (hs : ∀ x, foldedSetIterable iter X.env x = pure x := by intro _; rfl) :
    PS X (.Assign [.Name y py] (.DictComp kx vx [⟨tg, iter, ifs, 0⟩] scope pos) spos) (tAsg (tDc wi g tt tk te (own.map (·.2))) (gName i)) := by
  refine ⟨fun pins s σ H D I h => ?_⟩
  rw [exec_Assign_Name_used _ _ _ _ hsw]
  refine wpAny_bind (wpAny_standAt (wpAny_bind ?_))
  show wpAny _ X.A (do let _ ← comprehension (.DictComp kx vx [⟨tg, iter, ifs, 0⟩] scope pos) scope X.env (firstIterPos [⟨tg, iter, ifs, 0⟩] pos) newDict false (eval iter X.env) (some (assign (.Name y py) X.env))) _ _ s
  have h : tDc wi g tt tk te (own.map (·.2)) σ H (fun x H1 => gName i x σ H1 D.nx) := h
  refine wpAny_bind (thn (dc_core (Qf := fun _ s' => SP X pins D .next s') hc hN I hi ok hg ht hk he hs h fun L C s' m H' I' q hn f => ?_) fun _ s' hq => wpAny_pure (wpAny_pure hq))
  show wpAny _ _ (assign (.Name y py) X.env (.ref L)) _ _ _
  refine wpAny_assign_Name (store_ok2 (v := V.ref L) I' hN hy (.inl hyl) rfl (fun s2 I2 z => ?_) (.inr hyl))
  obtain ⟨a, sb, ha⟩ := z
  obtain ⟨c0, c1, c2, c3, c4, c5⟩ := f
  have off : C ≠ a := ha.elim (fun z => by rw [z]; exact c1) fun z e => c4 y a z e.symm
  exact ⟨m, hn.sameBut sb off, fun h3 b3 => ⟨_, H', I2.turned (t' := s2.toks) (fun b o hb e => (b3.2 b hb).trans e) c0 c1 c3 c4 c5, q⟩⟩
theorem s_setDc {bb : Bool} (hc : X.calm = true) (hN : X.N.Nodup) (hy : X.N[i]? = some y) (hyl : X.env.scope.names.lookup y = some .local) (hsw : swapsWith (.DictComp kx vx [⟨tg, iter, ifs, 0⟩] scope pos) (some (.Name y py)) spos.line X.env = pure true) (hi : PI X tg iter (tiOf X.K cl W fi)) (ok : BlkOk X.N X.env.scope scope own) (hv : tgIn (own.map (·.2)) t = true)
    (hg : ∀ (s : Shared) (H : Hp) (C : Addr) (cc : List (Str × Addr)) (fp : List Addr), PG (X.blk s H scope (compEnvC scope cc C X.env) fp) tg (gT X.K t)) (ht : ∀ (s : Shared) (H : Hp) (C : Addr) (cc : List (Str × Addr)) (fp : List Addr), PTs (X.blk s H scope (compEnvC scope cc C X.env) fp) ifs (ttOf X.K cl W0 ft))
    (hk : ∀ (s : Shared) (H : Hp) (C : Addr) (cc : List (Str × Addr)) (fp : List Addr), PE (X.blk s H scope (compEnvC scope cc C X.env) fp) kx (teOf X.K cl W0 fk))
    (he : ∀ (s : Shared) (H : Hp) (C : Addr) (cc : List (Str × Addr)) (fp : List Addr), PE (X.blk s H scope (compEnvC scope cc C X.env) fp) vx (teOf X.K cl W0 fe)) (hs : ∀ x, foldedSetIterable iter X.env x = pure x := by intro _; rfl) :
    PS X (.Assign [.Name y py] (.DictComp kx vx [⟨tg, iter, ifs, 0⟩] scope pos) spos) (tsOf X.K cl W (sSet i (xDc bb fi t ft fk fe (own.map (·.2))))) :=
  PS.w (ps_setDc hc hN hy hyl hsw hi ok hg ht hk he hs) fun D σ H ⟨μ, st, h, S, L, k⟩ => by
    have k' : SO X.K cl W μ h H (((fi st h).bind fun l h1 => (dcL t ft fk fe (wipeS st (own.map (·.2))) l [] h1).bind fun acc h2 => endD bb acc h2).toS st fun v h1 => .nx (st.set i (some v)) h1) D := k
    refine ⟨μ, st, h, S, L, ?_⟩
    have q : KO X.K cl (rV X.K cl) W μ h H σ ((fi st h).bind fun l h1 => (dcL t ft fk fe (wipeS st (own.map (·.2))) l [] h1).bind fun acc h2 => endD bb acc h2) (fun x H1 => gName i x σ H1 D.nx) :=
      SO.seq L k' fun μ1 h1 H1 a x g1 S1 L1 r1 k1 => k1 μ1 H1 (σ.set i (some x)) (Grow.refl _ _ _) S1 (L1.set i r1)
    exact KO.seq q fun μ1 h1 H1 l J g1 S1 r1 k1 D' hD => dc_turns hv S1 (L.grow g1.toGrw) r1 hD k1
end
end TR

set_option Elab.async false
set_option linter.all false
set_option maxRecDepth 100000
set_option maxHeartbeats 4000000
namespace TR
open PySem PySem.Spec L2
open PyProof.Rows (envOfC)

/-! ### -e -/
def xNeg (f : Ex) : Ex := fun st h => (f st h).bind fun v h1 => match v with
  | .int i => .ok (.int (-i)) h1
  | _ => .bad
section
variable {X : Cx} {cl : En} {W : WX} {e : Expr} {f : Ex} {pos : Pos}
theorem e_neg (p : PE X e (teOf X.K cl W f)) : PE X (.UnaryOp .USub e pos) (teOf X.K cl W (xNeg f)) :=
  PE.w (pe_un un_neg p) fun σ H Q ⟨μ, st, h, S, L, k⟩ => ⟨μ, st, h, S, L, KO.seq k fun μ1 h1 H1 a x g1 S1 r1 k1 => by
    split at k1
    · cases r1 with
      | int => exact ⟨_, rfl, KO.now (R := rV X.K cl) S1 .int k1⟩
    · exact k1.elim⟩
end

/-! ### a walk over a list with an id, read anew at each turn -/
/-- the list that the value is now -/
def forD (t : Tg) (fb : Sx) (n : Nat) : Nat → Nat → Sl → Hh → SR
  | 0, _, _, _ => .bad
  | m + 1, i, st, h => match h[n]? with
    | some (.lst l) => match l[i]? with
      | none => .nx st h
      | some v => match asg t v st with
        | none => .bad
        | some st1 => match fb st1 h with
          | .nx st2 h2 => forD t fb n m (i + 1) st2 h2
          | .ct st2 h2 => forD t fb n m (i + 1) st2 h2
          | .bk st2 h2 => .nx st2 h2
          | x => x
    | _ => .bad
def sForD (fuel : Nat) (fi : Ex) (t : Tg) (fb : Sx) : Sx := fun st h => (fi st h).toS st fun v h1 => match v with
  | .ref n => forD t fb n fuel 0 st h1
  | _ => .bad
def lcD (t : Tg) (ft : Eb) (fe : Ex) (st : Sl) (n : Nat) : Nat → Nat → List PV → Hh → Rs (List PV)
  | 0, _, _, _ => .bad
  | m + 1, i, acc, h => match h[n]? with
    | some (.lst l) => match l[i]? with
      | none => .ok acc h
      | some v => match asg t v st with
        | none => .bad
        | some st1 => match ft st1 h with
          | .ok true h1 => match fe st1 h1 with
            | .ok y h2 => if acc.length < sizeLine then lcD t ft fe st n m (i + 1) (acc ++ [y]) h2 else .bad
            | _ => .bad
          | .ok false h1 => lcD t ft fe st n m (i + 1) acc h1
          | _ => .bad
    | _ => .bad
section
variable {X : Cx} {cl : En} {W : WX} {e tg : Expr} {f : Ex} {fb : Sx} {t : Tg} {body : List Stmt} {pos : Pos}
theorem s_forD (fuel : Nat) (hp : PassesOwn (model X.prog X.w) X.A X.env X.xe) (hc : X.calm = true) (hi : PE X e (teOf X.K cl W f)) (hg : PG X tg (gT X.K t)) (hb : PSs X body (tsOf X.K cl W fb))
    (hs : ∀ x, foldedSetIterable e X.env x = pure x := by intro _; rfl) : PS X (.For tg e body [] pos) (tsOf X.K cl W (sForD fuel f t fb)) :=
  PS.w (ps_for hp hc (pi_list hi) hg hb hs) fun D σ H ⟨μ, st, h, S, L, k⟩ => ⟨μ, st, h, S, L, SO.seq L k fun μ1 h1 H1 v x g1 S1 L1 r1 k1 => by
    cases r1 with
    | ref q =>
      rename_i n a
      replace k1 : SO X.K cl W μ1 h1 H1 (forD t fb n fuel 0 st h1) D := k1
      have first : ∃ l, h1[n]? = some (.lst l) := by
        cases fuel with
        | zero => exact k1.elim
        | succ m =>
          unfold forD at k1
          cases e1 : h1[n]? with
          | none => rw [e1] at k1; exact k1.elim
          | some o =>
            cases o with
            | lst l => exact ⟨l, rfl⟩
            | dct l => rw [e1] at k1; exact k1.elim
            | dcn l => rw [e1] at k1; exact k1.elim
            | ins c fs => rw [e1] at k1; exact k1.elim
            | gone => rw [e1] at k1; exact k1.elim
      obtain ⟨l0, el0⟩ := first
      have sq : ∀ {μ' : Mp} {h' : Hh} {H' : Hp} {l : List PV}, Grw μ1 h1 H1 μ' h' H' → Sim X.K cl μ' h' H' → h'[n]? = some (.lst l) → ∃ xs, H' a = some (.lst xs) ∧ VRs X.K cl μ' h' H' l xs := fun {μ' h' H' l} g S el => by
        cases S.at (g.pre _ _ q) el with
        | lst hp rl => exact ⟨_, hp, rl⟩
      obtain ⟨xs0, hx0, _⟩ := sq (Grow.refl μ1 h1 H1).toGrw S1 el0
      refine ⟨a, rfl, ⟨xs0, SqL.of hx0⟩, fun i m σ' H' => ∃ μ' st' h', Grow μ1 h1 H1 μ' h' H' ∧ Sim X.K cl μ' h' H' ∧ StR X.K cl μ' h' H' st' σ' ∧ SO X.K cl W μ' h' H' (forD t fb n m i st' h') D, ⟨fuel, μ1, st, h1, Grow.refl _ _ _, S1, L1, k1⟩, ?_⟩
      rintro i m σ' H' ⟨μ', st', h', g', S', L', k'⟩
      cases m with
      | zero => exact k'.elim
      | succ m =>
        unfold forD at k'
        cases e1 : h'[n]? with
        | none => rw [e1] at k'; exact k'.elim
        | some o =>
          cases o with
          | dct l => rw [e1] at k'; exact k'.elim
          | dcn l => rw [e1] at k'; exact k'.elim
          | ins c fs => rw [e1] at k'; exact k'.elim
          | gone => rw [e1] at k'; exact k'.elim
          | lst l =>
            simp only [e1] at k'
            obtain ⟨xs, hx, rl⟩ := sq g'.toGrw S' e1
            cases e2 : l[i]? with
            | none =>
              simp only [e2] at k'
              refine .inl ⟨⟨xs, SqL.of hx, ?_⟩, k' μ' H' σ' (Grow.refl _ _ _) S' L'⟩
              rw [← VRs.length rl]
              exact List.getElem?_eq_none_iff.mp e2
            | some v =>
              simp only [e2] at k'
              obtain ⟨y, ey, rv⟩ := VRs.get rl e2
              refine .inr ⟨⟨xs, y, SqL.of hx, ey⟩, fun σ2 H2 => ∃ μ2 st2 h2, Grow μ1 h1 H1 μ2 h2 H2 ∧ Sim X.K cl μ2 h2 H2 ∧ StR X.K cl μ2 h2 H2 st2 σ2 ∧ SO X.K cl W μ2 h2 H2 (forD t fb n m (i + 1) st2 h2) D,
                fun σ2 H2 z => ⟨m, Nat.lt_succ_self m, z⟩, fun x H'' yy => ?_⟩
              obtain ⟨eH, yy⟩ := yy
              subst eH
              have ex := yy xs (SqL.of hx)
              rw [ey] at ex
              cases ex
              cases e3 : asg t v st' with
              | none => rw [e3] at k'; exact k'.elim
              | some st1 =>
                rw [e3] at k'
                refine asg_ok t v st' st1 e3 y σ' _ rv L' fun σ2 L2 => ⟨μ', st1, h', S', L2, ?_⟩
                cases e4 : fb st1 h' with
                | nx st2 h2 =>
                  simp only [e4] at k'
                  exact fun μ2 H2 σ3 g2 S2 L3 => ⟨μ2, st2, h2, g'.trans g2, S2, L3, SO.grow g2 k'⟩
                | ct st2 h2 =>
                  simp only [e4] at k'
                  exact fun μ2 H2 σ3 g2 S2 L3 => ⟨μ2, st2, h2, g'.trans g2, S2, L3, SO.grow g2 k'⟩
                | bk st2 h2 => simp only [e4] at k'; exact k'
                | ret v2 h2 => simp only [e4] at k'; exact k'
                | exc c2 fs2 st2 h2 => simp only [e4] at k'; exact k'
                | bad => simp only [e4] at k'; exact k'.elim
    | _ => exact k1.elim⟩
end
end TR

set_option Elab.async false
set_option linter.all false
set_option maxRecDepth 100000
set_option maxHeartbeats 4000000
namespace TR
open PySem PySem.Spec L2
open PyProof.Rows (envOfC)

/-! ### [e for x in xs], xs a list with an id -/
def xLcD (fuel : Nat) (fi : Ex) (t : Tg) (ft : Eb) (fe : Ex) (vs : List Nat) : Ex := fun st h => (fi st h).bind fun v h1 => match v with
  | .ref n => (lcD t ft fe (wipeS st vs) n fuel 0 [] h1).bind fun acc h2 => .ok (.lst acc) h2
  | _ => .bad
section
variable {X : Cx} {cl : En} {W : WX} {elt tg iter : Expr} {ifs : List Expr} {scope : Scope} {own : List (Str × Nat)} {ft : Eb} {fi fe : Ex} {t : Tg} {pos spos py : Pos} {i : Nat} {y : Str}
/-- the list at the id, as it is now -/
theorem id_list {μ1 μ' : Mp} {h1 h' : Hh} {H1 H' : Hp} {n : Nat} {a : Addr} {l : List PV} (q : μ1.ids[n]? = some a) (g : Grw μ1 h1 H1 μ' h' H') (S : Sim X.K cl μ' h' H') (el : h'[n]? = some (.lst l)) : ∃ xs, H' a = some (.lst xs) ∧ VRs X.K cl μ' h' H' l xs := by
  cases S.at (g.pre _ _ q) el with
  | lst hp rl => exact ⟨_, hp, rl⟩
theorem lcD_turns {n fuel : Nat} {a : Addr} {vs : List Nat} {μ1 : Mp} {h1 : Hh} {H1 : Hp} {σ : St} {st : Sl} {Q : VK} {D : Addr} (hv : tgIn vs t = true) (S1 : Sim X.K cl μ1 h1 H1) (L1 : StR X.K cl μ1 h1 H1 st σ) (q : μ1.ids[n]? = some a) (hD : H1 D = none)
    (k1 : KO X.K cl (rV X.K cl) W μ1 h1 H1 σ ((lcD t ft fe (wipeS st vs) n fuel 0 [] h1).bind fun acc h2 => .ok (.lst acc) h2) Q) :
    ∃ W' : Nat → Nat → Hp → Prop, (∃ m, W' 0 m (upd H1 D (.lst []))) ∧ ∀ i m H, W' i m H →
      ((Itl X.K a).stop i H ∧ Q (.ref D) H) ∨ ((Itl X.K a).go i H ∧ ∃ Nx : Hp → Prop, (∀ H', Nx H' → ∃ m', m' < m ∧ W' (i + 1) m' H') ∧ ∀ x H', (Itl X.K a).yld i H x H' → gT X.K t x (wipe σ vs) H' fun σ2 H2 => wipe σ2 vs = wipe σ vs ∧ ttOf X.K cl W0 ft σ2 H2 fun b H3 =>
        if b = true then teOf X.K cl W0 fe σ2 H3 fun y H4 => ∃ acc, H4 D = some (.lst acc) ∧ acc.length < sizeLine ∧ Nx (upd H4 D (.lst (acc ++ [y]))) else Nx H3) := by
  let Inv' : Nat → Nat → Hp → Prop := fun i m H => ∃ μ' h' acc accv, Grw μ1 h1 H1 μ' h' H ∧ μ'.res = D :: μ1.res ∧ (∀ a, a ∈ μ1.res → ∀ u, H1 a = some u → H a = some u) ∧ Sim X.K cl μ' h' H ∧ H D = some (.lst accv) ∧ VRs X.K cl μ' h' H acc accv ∧
    lcD t ft fe (wipeS st vs) n m i acc h' = lcD t ft fe (wipeS st vs) n fuel 0 [] h1
  have back : ∀ {μ' : Mp} {h' : Hh} {H : Hp}, μ'.res = D :: μ1.res → Grw μ' h' H ⟨μ'.ids, μ1.res⟩ h' H := fun {μ' h' H} hr => ⟨fun _ _ e => e, fun b x => by
    rcases x with x | x
    · exact .inl (.inl (by rw [hr]; exact List.mem_cons_of_mem _ x))
    · exact .inl (.inr x), fun _ _ e _ => e⟩
  have notR : D ∉ μ1.res := fun z => by
    obtain ⟨⟨u, w⟩, _⟩ := S1.rs D z
    rw [hD] at w; cases w
  have nbad : lcD t ft fe (wipeS st vs) n fuel 0 [] h1 ≠ .bad := fun z => by rw [z] at k1; exact k1
  refine ⟨Inv', ⟨fuel, μ1.hold D, h1, [], [], grw_hold hD, rfl, fun b hb u e => by rw [upd_ne (ne_of_none e hD)]; exact e, S1.hold hD, upd_same, .nil, rfl⟩, ?_⟩
  rintro i m H ⟨μ', h', acc, accv, g', hr, hk, S', eD, ra, k'⟩
  have inD : D ∈ μ'.res := by rw [hr]; exact List.mem_cons_self
  cases m with
  | zero => exact absurd k'.symm nbad
  | succ m =>
    simp only [lcD] at k'
    cases e0 : h'[n]? with
    | none => simp only [e0] at k'; exact absurd k'.symm nbad
    | some o =>
      cases o with
      | dct l => simp only [e0] at k'; exact absurd k'.symm nbad
      | dcn l => simp only [e0] at k'; exact absurd k'.symm nbad
      | ins c fs => simp only [e0] at k'; exact absurd k'.symm nbad
      | gone => simp only [e0] at k'; exact absurd k'.symm nbad
      | lst l =>
        simp only [e0] at k'
        obtain ⟨xs, hx, rl⟩ := id_list q g' S' e0
        cases el : l[i]? with
        | none =>
          simp only [el] at k'
          refine .inl ⟨⟨xs, SqL.of hx, by rw [← VRs.length rl]; exact List.getElem?_eq_none_iff.mp el⟩, ?_⟩
          have nD : ¬ Live ⟨μ'.ids, μ1.res⟩ h' D := fun z => by
            rcases z with z | ⟨j, o, e1, _⟩
            · exact notR z
            · exact (S'.rs D inD).2 (List.mem_of_getElem? e1)
          rw [← k'] at k1
          exact k1 ⟨μ'.ids, μ1.res⟩ H (.ref D) ⟨g'.trans (back hr), rfl, hk⟩ (S'.grw (back hr) rfl (fun _ _ => rfl) fun b hb => S'.rs b (by rw [hr]; exact List.mem_cons_of_mem _ hb)) (.lst nD eD (VRs.grow (back hr) ra))
        | some v =>
          simp only [el] at k'
          obtain ⟨x0, ex0, rv⟩ := VRs.get rl el
          refine .inr ⟨⟨xs, x0, SqL.of hx, ex0⟩, Inv' (i + 1) m, fun H' nn => ⟨m, Nat.lt_succ_self m, nn⟩, fun x H'' yy => ?_⟩
          obtain ⟨eH, yy⟩ := yy
          subst eH
          have ex := yy xs (SqL.of hx)
          rw [ex0] at ex
          cases ex
          have Lw : StR X.K cl μ' h' _ (wipeS st vs) (wipe σ vs) := str_wipe (L1.grow g') vs
          cases e1 : asg t v (wipeS st vs) with
          | none => simp only [e1] at k'; exact absurd k'.symm nbad
          | some st1 =>
            simp only [e1] at k'
            refine asg_okW t v _ st1 e1 vs hv x0 _ _ rv Lw fun σ2 L2 ew => ⟨by rw [ew]; exact wipe_wipe fun _ h => h, μ', st1, h', S', L2, ?_⟩
            cases e2 : ft st1 h' with
            | exc c fs h2 => simp only [e2] at k'; exact absurd k'.symm nbad
            | bad => simp only [e2] at k'; exact absurd k'.symm nbad
            | ok b h2 =>
              intro μ3 H3 b' g3 S3 rb
              have eb : b = b' := rb
              subst eb
              have hr3 : μ3.res = D :: μ1.res := g3.res.trans hr
              have eD3 := g3.rk D inD _ eD
              have hk3 : ∀ b, b ∈ μ1.res → ∀ u, H1 b = some u → H3 b = some u := fun b hb u e => g3.rk b (by rw [hr]; exact List.mem_cons_of_mem _ hb) u (hk b hb u e)
              have gB := g'.trans g3.toGrw
              have ra3 := VRs.grow g3.toGrw ra
              cases b with
              | false =>
                simp only [e2] at k'
                rw [if_neg Bool.false_ne_true]
                exact ⟨μ3, h2, acc, accv, gB, hr3, hk3, S3, eD3, ra3, k'⟩
              | true =>
                rw [if_pos rfl]
                simp only [e2] at k'
                refine ⟨μ3, st1, h2, S3, L2.grow g3.toGrw, ?_⟩
                have inD3 : D ∈ μ3.res := by rw [hr3]; exact List.mem_cons_self
                cases e3 : fe st1 h2 with
                | exc c fs h3 => simp only [e3] at k'; exact absurd k'.symm nbad
                | bad => simp only [e3] at k'; exact absurd k'.symm nbad
                | ok y2 h4 =>
                  intro μ4 H4 Y g4 S4 ry
                  simp only [e3] at k'
                  have hr4 : μ4.res = D :: μ1.res := g4.res.trans hr3
                  have eD4 := g4.rk D inD3 _ eD3
                  have inD4 : D ∈ μ4.res := by rw [hr4]; exact List.mem_cons_self
                  have ra4 := VRs.grow g4.toGrw ra3
                  by_cases hz : acc.length < sizeLine
                  · rw [if_pos hz] at k'
                    obtain ⟨gw, S5⟩ := S4.wres (o := .lst (accv ++ [Y])) inD4
                    refine ⟨accv, eD4, by rw [← VRs.length ra]; exact hz, μ4, h4, acc ++ [y2], accv ++ [Y], (gB.trans g4.toGrw).trans gw, hr4, fun b hb u e => ?_, S5, upd_same, VRs.grow gw (VRs.append ra4 (.cons ry .nil)), k'⟩
                    rw [upd_ne fun z : b = D => by subst z; exact notR hb]
                    exact g4.rk b (by rw [hr3]; exact List.mem_cons_of_mem _ hb) u (hk3 b hb u e)
                  · rw [if_neg hz] at k'
                    exact absurd k'.symm nbad
theorem lcD_run {fuel : Nat} {vs : List Nat} {μ : Mp} {h : Hh} {H : Hp} {σ : St} {st : Sl} {Q : VK} (hv : tgIn vs t = true) (S : Sim X.K cl μ h H) (L : StR X.K cl μ h H st σ) (k : KO X.K cl (rV X.K cl) W μ h H σ (xLcD fuel fi t ft fe vs st h) Q) :
    KO X.K cl (rV X.K cl) W μ h H σ (fi st h) (fun x H1 => ∃ a, x = .ref a ∧ (∃ xs, SqL X.K H1 a xs) ∧ ∀ D, H1 D = none → ∃ W' : Nat → Nat → Hp → Prop, (∃ m, W' 0 m (upd H1 D (.lst []))) ∧ ∀ i m H, W' i m H → ((Itl X.K a).stop i H ∧ Q (.ref D) H) ∨ ((Itl X.K a).go i H ∧ ∃ Nx : Hp → Prop, (∀ H', Nx H' → ∃ m', m' < m ∧ W' (i + 1) m' H') ∧ ∀ x H', (Itl X.K a).yld i H x H' → gT X.K t x (wipe σ vs) H' fun σ2 H2 => wipe σ2 vs = wipe σ vs ∧ ttOf X.K cl W0 ft σ2 H2 fun b H3 => if b = true then teOf X.K cl W0 fe σ2 H3 fun y H4 => ∃ acc, H4 D = some (.lst acc) ∧ acc.length < sizeLine ∧ Nx (upd H4 D (.lst (acc ++ [y]))) else Nx H3)) :=
  KO.seq k fun μ1 h1 H1 v x g1 S1 r1 k1 => by
    cases r1 with
    | ref q =>
      rename_i n a
      have hx : ∃ xs, H1 a = some (.lst xs) := by
        have z : lcD t ft fe (wipeS st vs) n fuel 0 [] h1 ≠ .bad := fun z => by
          have k2 : KO X.K cl (rV X.K cl) W μ1 h1 H1 σ ((lcD t ft fe (wipeS st vs) n fuel 0 [] h1).bind fun acc h2 => .ok (.lst acc) h2) Q := k1
          rw [z] at k2; exact k2
        cases fuel with
        | zero => exact absurd rfl z
        | succ m =>
          unfold lcD at z
          cases e0 : h1[n]? with
          | none => rw [e0] at z; exact absurd rfl z
          | some o =>
            cases o with
            | lst l =>
              obtain ⟨xs, hx, _⟩ := id_list q (Grow.refl μ1 h1 H1).toGrw S1 e0
              exact ⟨xs, hx⟩
            | dct l => rw [e0] at z; exact absurd rfl z
            | dcn l => rw [e0] at z; exact absurd rfl z
            | ins c fs => rw [e0] at z; exact absurd rfl z
            | gone => rw [e0] at z; exact absurd rfl z
      obtain ⟨xs, hx⟩ := hx
      exact ⟨a, rfl, ⟨xs, SqL.of hx⟩, fun D hD => lcD_turns hv S1 (L.grow g1.toGrw) q hD k1⟩
    | _ => exact k1.elim
theorem e_lcD (fuel : Nat) (hc : X.calm = true) (hN : X.N.Nodup) (hi : PE X iter (teOf X.K cl W fi)) (ok : BlkOk X.N X.env.scope scope own) (hv : tgIn (own.map (·.2)) t = true)
    (hg : ∀ (s : Shared) (H : Hp) (C : Addr) (cc : List (Str × Addr)) (fp : List Addr), PG (X.blk s H scope (compEnvC scope cc C X.env) fp) tg (gT X.K t)) (ht : ∀ (s : Shared) (H : Hp) (C : Addr) (cc : List (Str × Addr)) (fp : List Addr), PTs (X.blk s H scope (compEnvC scope cc C X.env) fp) ifs (ttOf X.K cl W0 ft))
    (he : ∀ (s : Shared) (H : Hp) (C : Addr) (cc : List (Str × Addr)) (fp : List Addr), PE (X.blk s H scope (compEnvC scope cc C X.env) fp) elt (teOf X.K cl W0 fe)) (hs : ∀ x, foldedSetIterable iter X.env x = pure x := by intro _; rfl) :
    PE X (.ListComp elt [⟨tg, iter, ifs, 0⟩] scope pos) (teOf X.K cl W (xLcD fuel fi t ft fe (own.map (·.2)))) :=
  PE.w (pe_lc hc hN (pi_list hi) ok hg ht he hs) fun σ H Q ⟨μ, st, h, S, L, k⟩ => ⟨μ, st, h, S, L, lcD_run hv S L k⟩
theorem s_setLcD (fuel : Nat) (hc : X.calm = true) (hN : X.N.Nodup) (hy : X.N[i]? = some y) (hyl : X.env.scope.names.lookup y = some .local) (hsw : swapsWith (.ListComp elt [⟨tg, iter, ifs, 0⟩] scope pos) (some (.Name y py)) spos.line X.env = pure true) (hi : PE X iter (teOf X.K cl W fi)) (ok : BlkOk X.N X.env.scope scope own) (hv : tgIn (own.map (·.2)) t = true)
    (hg : ∀ (s : Shared) (H : Hp) (C : Addr) (cc : List (Str × Addr)) (fp : List Addr), PG (X.blk s H scope (compEnvC scope cc C X.env) fp) tg (gT X.K t)) (ht : ∀ (s : Shared) (H : Hp) (C : Addr) (cc : List (Str × Addr)) (fp : List Addr), PTs (X.blk s H scope (compEnvC scope cc C X.env) fp) ifs (ttOf X.K cl W0 ft))
    (he : ∀ (s : Shared) (H : Hp) (C : Addr) (cc : List (Str × Addr)) (fp : List Addr), PE (X.blk s H scope (compEnvC scope cc C X.env) fp) elt (teOf X.K cl W0 fe)) (hs : ∀ x, foldedSetIterable iter X.env x = pure x := by intro _; rfl) :
    PS X (.Assign [.Name y py] (.ListComp elt [⟨tg, iter, ifs, 0⟩] scope pos) spos) (tsOf X.K cl W (sSet i (xLcD fuel fi t ft fe (own.map (·.2))))) :=
  PS.w (ps_setLc hc hN hy hyl hsw (pi_list hi) ok hg ht he hs) fun D σ H ⟨μ, st, h, S, L, k⟩ =>
    ⟨μ, st, h, S, L, lcD_run hv S L (SO.seq L k fun μ1 h1 H1 a x g1 S1 L1 r1 k1 => k1 μ1 H1 (σ.set i (some x)) (Grow.refl _ _ _) S1 (L1.set i r1) : KO X.K cl (rV X.K cl) W μ h H σ (xLcD fuel fi t ft fe (own.map (·.2)) st h) (fun x H1 => gName i x σ H1 D.nx))⟩
end
end TR

set_option Elab.async false
set_option linter.all false
set_option maxRecDepth 100000
set_option maxHeartbeats 4000000
namespace TR
open PySem PySem.Spec L2
open PyProof.Rows (envOfC)

/-! ### str of an int or a text -/
def gStrA (as : List PV) (h : Hh) : Rs PV := match as with
  | [.int i] => if i.natAbs.log2 < 1920 then .ok (.str (toString i)) h else .bad
  | [.str x] => .ok (.str x) h
  | _ => .bad
abbrev rStrA : List V → Hp → VK → Prop := fun xs H Q => (∃ i, xs = [.int i] ∧ i.natAbs.log2 < 1920 ∧ Q (.str (toString i)) H) ∨ ∃ a, xs = [.str a] ∧ Q (.str a) H
section
variable {X : Cx} {K : PySem.W.Frag} {cl : En}
theorem cr_strA : CallR X (.type "str") rStrA := call_str_int.or SkE.call_str_str
theorem v_strA : VCall K cl gStrA rStrA := by
  intro μ h H as AS W σ Q S r k
  unfold gStrA at k
  split at k
  · obtain ⟨V, rfl, q⟩ := vrs1 r
    cases q
    split at k
    · rename_i hi
      exact .inl ⟨_, rfl, hi, KO.now (R := rV K cl) S .str k⟩
    · exact k.elim
  · obtain ⟨V, rfl, q⟩ := vrs1 r
    cases q
    exact .inr ⟨_, rfl, KO.now (R := rV K cl) S .str k⟩
  · exact k.elim
end
end TR

set_option Elab.async false
set_option linter.all false
set_option maxRecDepth 100000
set_option maxHeartbeats 4000000
namespace TR
open PySem PySem.Spec L2
open PyProof.Rows (envOfC)

/-! ### isinstance(x, T), T a built-in type -/
def tyP (v : PV) (h : Hh) : Option String := match v with
  | .non => some "NoneType"
  | .bl _ => some "bool"
  | .int _ => some "int"
  | .str _ => some "str"
  | .tup _ => some "tuple"
  | .lst _ => some "list"
  | .scr _ => some "list"
  | .dct _ => some "dict"
  | .ref i => match h[i]? with
    | some (.lst _) => some "list"
    | some (.dct _) => some "dict"
    | _ => none
  | _ => none
def gIsi (as : List PV) (h : Hh) : Rs PV := match as with
  | [v, .ty n] => match (tyP v h).bind fun s => kitB s n with
    | some b => .ok (.bl b) h
    | none => .bad
  | _ => .bad
section
variable {X : Cx} {K : PySem.W.Frag} {cl : En} {W : WX} {x : Str} {n : String} {pos : Pos}
theorem e_bty (hg : Gl X x) (hm : X.mg x = none) (hv : bootBuiltins x = some (.type n)) (hn : x ≠ "__name__" := by decide) (hd : (x == ("__debug__" : Str)) = false := by decide) : PE X (.Name x pos) (teOf X.K cl W (xC (.ty n))) :=
  e_c (pe_bltn (v := .ty n) hg hm hv rfl hn hd) fun _ _ _ => .ty
theorem tyP_ok {μ h H v V s} (S : Sim K cl μ h H) (r : VR K cl μ h H v V) (e : tyP v h = some s) : TyX K H V (.type s) := by
  cases r with
  | non => cases e; exact .base .non
  | bl => cases e; exact .base (.bl _)
  | int => cases e; exact .base (.int _)
  | str => cases e; exact .base (.str _)
  | tup f r =>
    cases e
    rcases f.2 with q | ⟨o, q⟩
    · exact .base (.tup q)
    · exact .fTuple q
  | ktup f r =>
    cases e
    obtain ⟨o, its, n, h1, h2, _⟩ := f
    exact .kTuple h1 h2
  | lst m f r => cases e; exact .base (.lst f)
  | scr f r =>
    cases e
    rcases f.2 with q | ⟨o, q⟩
    · exact .base (.lst q)
    · exact .base (.frz q)
  | kscr f r =>
    cases e
    obtain ⟨o, its, n, h1, h2, _⟩ := f
    exact .kList h1 h2
  | dct m f a b r => cases e; exact .base (.dK f)
  | dctN m f a b r => cases e
  | ref q =>
    simp only [tyP] at e
    split at e
    · rename_i l e0
      cases e
      cases S.at q e0 with
      | lst f r => exact .base (.lst f)
    · rename_i l e0
      cases e
      cases S.at q e0 with
      | dK f a b r => exact .base (.dK f)
    · cases e
  | cls => cases e
  | ty => cases e
theorem v_isi : VCall K cl gIsi (rIsi K) := by
  intro μ h H as AS W σ Q S r k
  unfold gIsi at k
  split at k
  · rename_i v n
    obtain ⟨V, U, rfl, r2, r3⟩ := vrs2 r
    cases r3
    split at k
    · rename_i b e
      obtain ⟨s, e1, e2⟩ := Option.bind_eq_some_iff.mp e
      exact ⟨V, .ty n, .type s, .type n, b, rfl, .ty n, tyP_ok S r2 e1, kit_ty e2, KO.now (R := rV K cl) S .bl k⟩
    · exact k.elim
  · exact k.elim
end
end TR

set_option Elab.async false
set_option linter.all false
set_option maxRecDepth 100000
set_option maxHeartbeats 4000000
namespace TR
open PySem PySem.Spec L2
open PyProof.Rows (envOfC)

/-! ### how many arguments there are -/
def ALen (fa : Ea) (m : Nat) : Prop := ∀ st h as h1, fa st h = .ok as h1 → as.length = m
theorem aLen0 : ALen aNil 0 := fun st h as h1 e => by
  have e' : Rs.ok [] h = Rs.ok as h1 := e
  cases e'
  rfl
theorem aLenS {f : Ex} {g : Ea} {m : Nat} (q : ALen g m) : ALen (aCons f g) (m + 1) := fun st h as h1 e => by
  unfold aCons at e
  cases e1 : f st h with
  | ok v h2 =>
    rw [e1] at e
    replace e : (g st h2).bind (fun vs h2 => Rs.ok (v :: vs) h2) = .ok as h1 := e
    cases e2 : g st h2 with
    | ok vs h3 =>
      rw [e2] at e
      replace e : Rs.ok (v :: vs) h3 = .ok as h1 := e
      cases e
      simp [q _ _ _ _ e2]
    | exc c fs h3 => rw [e2] at e; cases e
    | bad => rw [e2] at e; cases e
  | exc c fs h2 => rw [e1] at e; cases e
  | bad => rw [e1] at e; cases e
end TR

set_option Elab.async false
set_option linter.all false
set_option maxRecDepth 100000
set_option maxHeartbeats 4000000
namespace TR
open PySem PySem.Spec L2
open PySem.W (Frag)

/-! ### what the module's top left, read by Bools -/
def all2 {α β : Type} (f : α → β → Bool) : List α → List β → Bool
  | [], [] => true
  | a :: r, b :: s => f a b && all2 f r s
  | _, _ => false
def pvB (K : Frag) : Nat → PV → Value → Bool
  | 0 => fun _ _ => false
  | n + 1 => fun v u => match v, u with
    | .non, .none => true
    | .bl b, .bool c => b == c
    | .int i, .int j _ => decide (i = j)
    | .str x, .str y _ => decide (x = y)
    | .tup l, .ref a => (match K.lookup a with
      | some ⟨.type c, _, .seq its _, _⟩ => decide (c = "tuple") && (decide (its.size ≤ sizeLine) && all2 (pvB K n) l its.toList)
      | _ => false)
    | _, _ => false
theorem all2_ok {K : Frag} {cl : En} {f : PV → Value → Bool} (hf : ∀ v u, f v u = true → ∃ x, RelV x u ∧ ∀ μ h H, VR K cl μ h H v x) :
    ∀ (l : List PV) (us : List Value), all2 f l us = true → ∃ xs, Vals xs us ∧ ∀ μ h H, VRs K cl μ h H l xs
  | [], [], _ => ⟨[], .nil, fun _ _ _ => .nil⟩
  | [], _ :: _, e => by cases e
  | _ :: _, [], e => by cases e
  | v :: l, u :: us, e => by
    obtain ⟨e1, e2⟩ := He.ba (show (f v u && all2 f l us) = true from e)
    obtain ⟨x, r, q⟩ := hf v u e1
    obtain ⟨xs, rs, qs⟩ := all2_ok hf l us e2
    exact ⟨x :: xs, .cons r rs, fun μ h H => .cons (q μ h H) (qs μ h H)⟩
theorem pvB_ok {K : Frag} {cl : En} : ∀ (n : Nat) (v : PV) (u : Value), pvB K n v u = true → ∃ x, RelV x u ∧ ∀ μ h H, VR K cl μ h H v x
  | 0, _, _, e => by cases e
  | n + 1, v, u, e => by
    cases v with
    | non =>
      cases u with
      | none => exact ⟨.non, rfl, fun _ _ _ => .non⟩
      | _ => cases e
    | bl b =>
      cases u with
      | bool c =>
        have h : b = c := eq_of_beq (show (b == c) = true from e)
        exact ⟨.bl b, by rw [h]; rfl, fun _ _ _ => .bl⟩
      | _ => cases e
    | int i =>
      cases u with
      | int j t =>
        have h : i = j := of_decide_eq_true e
        exact ⟨.int i, ⟨t, by rw [h]⟩, fun _ _ _ => .int⟩
      | _ => cases e
    | str x =>
      cases u with
      | str y t =>
        have h : x = y := of_decide_eq_true e
        exact ⟨.str x, ⟨t, by rw [h]⟩, fun _ _ _ => .str⟩
      | _ => cases e
    | tup l =>
      cases u with
      | ref a =>
        have e' : (match K.lookup a with
          | some ⟨.type c, _, .seq its _, _⟩ => decide (c = "tuple") && (decide (its.size ≤ sizeLine) && all2 (pvB K n) l its.toList)
          | _ => false) = true := e
        split at e'
        · rename_i c od its m osl q
          obtain ⟨e1, e2⟩ := He.ba e'
          obtain ⟨e3, e4⟩ := He.ba e2
          obtain ⟨xs, rs, qs⟩ := all2_ok (cl := cl) (pvB_ok n) l _ e4
          exact ⟨.ref a, rfl, fun μ h H => .ktup ⟨_, its, m, q, congrArg Value.type (of_decide_eq_true e1), rfl, of_decide_eq_true e3, rs⟩ (qs μ h H)⟩
        · cases e'
      | _ => cases e
    | _ => cases u <;> cases e
/-- the module's name x is this value -/
def conB (K : Frag) (x : Str) (v : PV) : Bool := match PySem.W.nsIn K mainGlobals x with
  | some (some u) => pvB K 6 v u
  | _ => false
theorem conB_ok {K : Frag} {h : Heap} {mg : Str → Option Value} {cl : En} {x : Str} {v : PV} (X : K.In h) (G : h.Ns mainGlobals mg) (e : conB K x v = true) : ∃ u y, mg x = some u ∧ RelV y u ∧ ∀ μ h H, VR K cl μ h H v y := by
  unfold conB at e
  split at e
  · rename_i u q
    obtain ⟨y, r, k⟩ := pvB_ok (cl := cl) 6 v u e
    exact ⟨u, y, PySem.W.mg_of X G q, r, k⟩
  · cases e
theorem look_mem {x : Str} {v : PV} : ∀ {l : List (Str × PV)}, l.lookup x = some v → (x, v) ∈ l
  | [], e => by cases e
  | (y, u) :: r, e => by
    have e2 : (match x == y with | true => some u | false => r.lookup x) = some v := e
    cases q : (x == y) with
    | true =>
      rw [q] at e2
      have := Option.some.inj e2
      rw [beq_iff_eq.mp q, ← this]
      exact List.mem_cons_self
    | false =>
      rw [q] at e2
      exact List.mem_cons_of_mem _ (look_mem e2)
def tabB (K : Frag) (a : Addr) (tab : List (Str × PV)) : Bool := tab.all fun q => match PySem.W.nsIn K a q.1 with
  | some (some u) => pvB K 6 q.2 u
  | _ => false
theorem tabB_ok {K : Frag} {cl : En} {a : Addr} {tab : List (Str × PV)} (hd : ∃ es n, KDict K cl.w a es n) (e : tabB K a tab = true) : KTab K cl a tab := by
  obtain ⟨es, n, D⟩ := hd
  intro x v hl
  have e1 := List.all_eq_true.mp e (x, v) (look_mem hl)
  split at e1
  · rename_i u q
    obtain ⟨y, r, k⟩ := pvB_ok (cl := cl) 6 v u e1
    exact ⟨y, ⟨es, n, u, D.at_, D.lit, q, r⟩, k⟩
  · cases e1
/-- an exception's class -/
def oexB (K : Frag) (C : Addr) : Bool := (match K.lookup C with
  | some ⟨.type c, _, .cls cd, sl⟩ => (match cd.mro, sl.toList with
    | .ref D :: bm, [_, _, _, _, some (.builtin n), _] => decide (c = "type") && (decide (D = C) && (decide (n = "ValueError.__new__") && (cd.hasDict && (!cd.hasDel && PySem.HandSPX.refsVE bm))))
    | _, _ => false)
  | _ => false) && (He.eqO (PySem.W.findIn K (.ref C) "__setattr__") (some (some (.builtin "object.__setattr__"))) && (decide (PySem.W.subIn K (.ref C) (.type "BaseException") = some true) && (decide (PySem.W.typeIn K (.ref C) = some (.type "type")) && PySem.W.keepIn K (.ref C))))
theorem oexB_ok {K : Frag} {C : Addr} (e : oexB K C = true) : OexC K C := by
  obtain ⟨e1, e⟩ := He.ba e
  obtain ⟨e2, e⟩ := He.ba e
  obtain ⟨e3, e⟩ := He.ba e
  obtain ⟨e4, e5⟩ := He.ba e
  refine ⟨?_, He.eqO_ok e2, of_decide_eq_true e3, of_decide_eq_true e4, e5⟩
  split at e1
  · rename_i c dd cd sl q
    split at e1
    · rename_i D bm k0 k1 k2 k3 n k5 hm hs
      obtain ⟨f1, f⟩ := He.ba e1
      obtain ⟨f2, f⟩ := He.ba f
      obtain ⟨f3, f⟩ := He.ba f
      obtain ⟨f4, f⟩ := He.ba f
      obtain ⟨f5, f6⟩ := He.ba f
      obtain ⟨nm, bs, mro, ns, qn, hd, sn, sub, ab, col, del⟩ := cd
      dsimp only at hm f4 f5
      have g1 := of_decide_eq_true f1
      have g2 := of_decide_eq_true f2
      have g3 := of_decide_eq_true f3
      have g5 : del = false := by
        cases del with
        | false => rfl
        | true => cases f5
      subst hm g1 g2 g3 f4 g5
      have hsl : sl = #[k0, k1, k2, k3, some (.builtin "ValueError.__new__"), k5] := by
        obtain ⟨l⟩ := sl
        simp only at hs
        rw [hs]
      subst hsl
      exact ⟨nm, qn, ns, bs, bm, sn, sub, ab, col, dd, k0, k1, k2, k3, k5, q, f6⟩
    · cases e1
  · cases e1
/-- attributes of a class are read plainly -/
theorem cread_ok {K : Frag} {C : Addr} {mc : Value} (h : PySem.W.readsIn K C mc = true) : ClX.CRead K C mc := by
  refine ⟨h, ?_⟩
  unfold PySem.W.readsIn at h
  obtain ⟨h, _⟩ := He.ba h
  obtain ⟨h, _⟩ := He.ba h
  obtain ⟨h, h3⟩ := He.ba h
  obtain ⟨_, h2⟩ := He.ba h
  unfold PySem.W.specialIn
  rw [beq_iff_eq.mp h2, Option.bind_some]
  exact beq_iff_eq.mp h3
def cmetB (K : Frag) (C : Addr) (m : Str) : Bool := He5.wrapB K C "classmethod" "classmethod.__get__" m && PySem.W.fnIn K (He5.wf K C "classmethod" m)
theorem cmetB_ok {K : Frag} {C : Addr} {m : Str} (e : cmetB K C m = true) : ClX.CMet K C (.type "type") m (He.ma K C m) (He5.wf K C "classmethod" m) := by
  obtain ⟨h, hf⟩ := He.ba e
  obtain ⟨h1, h2⟩ := He5.wrapB_ok h
  exact ⟨h1, h2, hf⟩
def findB (K : Frag) (C : Addr) (m : Str) (n : String) : Bool := match PySem.W.findCls K (.ref C) (.type "type") m with
  | some (.val (.builtin k)) => decide (k = n)
  | _ => false
theorem findB_ok {K : Frag} {C : Addr} {m : Str} {n : String} (e : findB K C m n = true) : PySem.W.findCls K (.ref C) (.type "type") m = some (.val (.builtin n)) := by
  unfold findB at e
  split at e
  · rename_i k q
    rw [q, of_decide_eq_true e]
  · cases e
/-- what is told of an exception's class: x its name, its fields -/
def excB (K : Frag) (x : Str) (fs : List Str) : Bool := (He.Fa.glo x).ok K && (oexB K (He.ga K x) && (He.eqO (PySem.W.findIn K (.ref (He.ga K x)) "__init__") (some (some (.ref (He.ma K (He.ga K x) "__init__")))) && (decide (PySem.W.typeIn K (.ref (He.ma K (He.ga K x) "__init__")) = some (.type "function")) && fs.all fun f => He.eqO (PySem.W.findIn K (.ref (He.ga K x)) f) (some none))))
structure ExcF (K : Frag) (mg : Str → Option Value) (x : Str) (fs : List Str) : Prop where
  glo : mg x = some (.ref (He.ga K x))
  oex : OexC K (He.ga K x)
  ini : PySem.W.findIn K (.ref (He.ga K x)) "__init__" = some (some (.ref (He.ma K (He.ga K x) "__init__")))
  typ : PySem.W.typeIn K (.ref (He.ma K (He.ga K x) "__init__")) = some (.type "function")
  no : ∀ f ∈ fs, PySem.W.findIn K (.ref (He.ga K x)) f = some none
theorem excB_ok {K : Frag} {h : Heap} {mg : Str → Option Value} {x : Str} {fs : List Str} (X : K.In h) (G : h.Ns mainGlobals mg) (e : excB K x fs = true) : ExcF K mg x fs := by
  obtain ⟨e1, e⟩ := He.ba e
  obtain ⟨e2, e⟩ := He.ba e
  obtain ⟨e3, e⟩ := He.ba e
  obtain ⟨e4, e5⟩ := He.ba e
  exact ⟨He.glo_ok X G e1, oexB_ok e2, He.eqO_ok e3, of_decide_eq_true e4, fun f hf => He.eqO_ok (List.all_eq_true.mp e5 f hf)⟩
/-- .. of a class of objects -/
def clsB (K : Frag) (x : Str) (fs : List Str) : Bool := (He.Fa.glo x).ok K && ((He.Fa.cls x).ok K && ((He.Fa.mkr x).ok K && fs.all fun f => (He.Fa.noat x f).ok K))
structure ClsF (K : Frag) (mg : Str → Option Value) (x : Str) (fs : List Str) : Prop where
  glo : mg x = some (.ref (He.ga K x))
  cls : Cls K (He.ga K x)
  maker : Mk K (He.ga K x) (He.ma K (He.ga K x) "__init__")
  no : ∀ f ∈ fs, NoAttr K (He.ga K x) f
theorem clsB_ok {K : Frag} {h : Heap} {mg : Str → Option Value} {x : Str} {fs : List Str} (X : K.In h) (G : h.Ns mainGlobals mg) (e : clsB K x fs = true) : ClsF K mg x fs := by
  obtain ⟨e1, e⟩ := He.ba e
  obtain ⟨e2, e⟩ := He.ba e
  obtain ⟨e3, e5⟩ := He.ba e
  exact ⟨He.glo_ok X G e1, He.cls_ok e2, He.mkr_ok e3, fun f hf => He.noat_ok (List.all_eq_true.mp e5 f hf)⟩

/-! ### the Hook -/
abbrev AlZ : Type := (Bool × List He.FnW) × List (Option (List (Option (Str × Int))))
def obsZ (fn : List He5.DefA) (ts : List (Str × List Str)) (ex : Frag → Bool) (K : Frag) : AlZ := ((ex K && fn.all fun d => d.ok K, fn.map fun d => He5.fnA K (d.at_ K)), ts.map fun t => He.dicW K (He.ga K t.1))
def valZ (fn : List He5.DefA) (ts : List (Str × List Str)) (w : World) : AlZ := ((true, fn.map He5.DefA.val), ts.map fun t => some (He.keysIn w.params t.2))
def SaysZ (fn : List He5.DefA) (ts : List (Str × List Str)) (ex : Frag → Bool) (w : World) (K : Frag) : Prop := obsZ fn ts ex K = valZ fn ts w
def obsZG (n : Nat) (fn : List He5.DefA) (ts : List (Str × List Str)) (ex : Frag → Bool) (g : Addr → Option Obj) : AlZ := obsZ fn ts ex (He.frG g (He5.asA g n))
def hookZ (n : Nat) (fn : List He5.DefA) (ts : List (Str × List Str)) (ex : Frag → Bool) : PySem.W.Hook where
  α := AlZ
  obs := fun s => obsZG n fn ts ex s.heap.get?
  val := fun w => valZ fn ts w
  says := fun w h => ∃ K : Frag, K.In h ∧ SaysZ fn ts ex w K
  of := fun _ _ e => ⟨_, He.frG_in, e⟩
  keeps := fun _ _ _ ⟨K, hK, c⟩ k => ⟨K, Frag.In.keeps hK k, c⟩
theorem obsZG_eq {n : Nat} {fn : List He5.DefA} {ts : List (Str × List Str)} {ex : Frag → Bool} {g : Addr → Option Obj} {s : Shared} (h : ∀ a, g a = s.heap.get? a) : obsZG n fn ts ex g = (hookZ n fn ts ex).obs s := by
  have e : g = s.heap.get? := funext h
  rw [e] <;> rfl
section
variable {fn : List He5.DefA} {ts : List (Str × List Str)} {ex : Frag → Bool} {w : World} {K : Frag}
theorem SaysZ.more (c : SaysZ fn ts ex w K) : ex K = true := (He.ba (show (ex K && fn.all fun d => d.ok K) = true from congrArg (fun z : AlZ => z.1.1) c)).1
theorem SaysZ.def_ (c : SaysZ fn ts ex w K) (i : Nat) {d : He5.DefA} (h : fn[i]? = some d := by rfl) : ∃ fd, FunD K d.name d.qual d.params d.body d.scope (d.dvs K) (d.kws K) (d.at_ K) fd := by
  have c2 := (He.ba (show (ex K && fn.all fun d => d.ok K) = true from congrArg (fun z : AlZ => z.1.1) c)).2
  have e : fn.map (fun d => He5.fnA K (d.at_ K)) = fn.map He5.DefA.val := congrArg (fun z : AlZ => z.1.2) c
  have e2 : (fn.map fun d => He5.fnA K (d.at_ K))[i]? = (fn.map He5.DefA.val)[i]? := by rw [e]
  rw [List.getElem?_map, List.getElem?_map, h] at e2
  exact He5.DefA.funD (Option.some.inj e2) (List.all_eq_true.mp c2 d (List.mem_of_getElem? h))
theorem SaysZ.tab (c : SaysZ fn ts ex w K) (i : Nat) {t : Str × List Str} (h : ts[i]? = some t := by rfl) : ∃ es n, KDict K w (He.ga K t.1) es n := by
  have e : ts.map (fun t => He.dicW K (He.ga K t.1)) = ts.map fun t => some (He.keysIn w.params t.2) := congrArg (fun z : AlZ => z.2) c
  have e2 : (ts.map fun t => He.dicW K (He.ga K t.1))[i]? = (ts.map fun t => some (He.keysIn w.params t.2))[i]? := by rw [e]
  rw [List.getElem?_map, List.getElem?_map, h] at e2
  exact He.dicW_ok (Option.some.inj e2)
end
end TR

set_option Elab.async false
set_option linter.all false
set_option maxRecDepth 100000
set_option maxHeartbeats 4000000
namespace TR
open PySem PySem.Spec L2
open PySem.W (Frag)

/-! ### a law's end -/
theorem sim0 {K : Frag} {cl : En} {H : Hp} : Sim K cl ⟨[], []⟩ [] H := ⟨rfl, .nil, fun i a o e => by simp at e, fun a h => by cases h⟩
theorem sp_law {K : Frag} {cl : En} {g : List PV → Hh → Rs PV} {ns : List Int} {H : Hp} {a : Addr} (hS : SqL K H a (ns.map V.int)) (main : ∃ h', g [.scr (ns.map .int)] [] = .ok (.bl true) h') :
    spOf K cl 1 g [.ref a] H (fun v _ => v = .bl true) (fun _ _ _ => False) := by
  obtain ⟨h', e⟩ := main
  refine ⟨rfl, ⟨[], []⟩, [], [.scr (ns.map .int)], sim0, .cons ?_ .nil, ?_⟩
  · rcases hS with r | r
    · exact .scr ⟨fun l => by rcases l with l | ⟨i, o, e1, e2, _⟩ <;> simp at *, r⟩ (vrs_ints ns)
    · exact .kscr r (vrs_ints ns)
  · rw [e]
    intro μ' H' b g s r
    cases r
    rfl
theorem factZ {l : List Bool} (h : l.all id = true) (i : Nat) {b : Bool} (e : l[i]? = some b) : b = true := List.all_eq_true.mp h b (List.mem_of_getElem? e)
theorem no_CX {P : Program} {w : World} {H : Hp} {s s' : Shared} {e : Value} (h : L2.CX P w [] H s (fun _ _ _ => False) e s') : False := by
  obtain ⟨a, B, H', cls, d, _, _, _, _, _, _, _, z⟩ := h
  exact z
end TR

set_option Elab.async false
set_option linter.all false
set_option maxRecDepth 100000
set_option maxHeartbeats 4000000
namespace TR
open PySem PySem.Spec L2
open PyProof.Rows (envOfC)

/-! ### {k: v, ..} with keys ints and texts -/
def prL : List (Ex × Ex) → Sl → Hh → Rs (List (Key × PV))
  | [], _, h => .ok [] h
  | (fk, fv) :: r, st, h => match fk st h with
    | .ok q h1 => match fv st h1, keyV q with
      | .ok v h2, some k => match prL r st h2 with
        | .ok ps h3 => .ok ((k, v) :: ps) h3
        | _ => .bad
      | _, _ => .bad
    | _ => .bad
def putAll (acc : List (PV × PV)) (ps : List (Key × PV)) : List (PV × PV) := ps.foldl (fun acc p => dPut acc p.1 p.2) acc
def xDisp (b : Bool) (fs : List (Ex × Ex)) : Ex := fun st h => if fs.length ≤ 15 then (match prL fs st h with
    | .ok ps h1 => endD b (putAll [] ps) h1
    | _ => .bad) else .bad
section
variable {K : PySem.W.Frag} {cl : En}
def zipK : List (Key × PV) → List V → List (Key × V)
  | p :: ps, x :: xs => (p.1, x) :: zipK ps xs
  | _, _ => []
theorem prL_len : ∀ {fs : List (Ex × Ex)} {st : Sl} {h h' : Hh} {ps : List (Key × PV)}, prL fs st h = .ok ps h' → ps.length = fs.length
  | [], st, h, h', ps, e => by cases e; rfl
  | (fk, fv) :: r, st, h, h', ps, e => by
    unfold prL at e
    split at e
    · split at e
      · split at e
        · rename_i e3
          cases e
          rw [List.length_cons, List.length_cons, prL_len e3]
        · cases e
      · cases e
    · cases e
theorem pairs_ok {σ : St} {st : Sl} {Q : List (V × V) → Hp → Prop} : ∀ {fs : List (Ex × Ex)} {μ : Mp} {h h' : Hh} {H : Hp} {ps : List (Key × PV)}, Sim K cl μ h H → StR K cl μ h H st σ → prL fs st h = .ok ps h' →
    (∀ μ' H' xs, Grow μ h H μ' h' H' → Sim K cl μ' h' H' → VRs K cl μ' h' H' (ps.map (·.2)) xs → Q ((zipK ps xs).map fun z => (kV z.1, z.2)) H') →
    tPairs (fs.map fun f => (teOf K cl W0 f.1, teOf K cl W0 f.2)) σ H Q
  | [], μ, h, h', H, ps, S, L, e, k => by
    cases e
    exact k μ H [] (Grow.refl _ _ _) S .nil
  | (fk, fv) :: r, μ, h, h', H, ps, S, L, e, k => by
    unfold prL at e
    cases e1 : fk st h with
    | exc c fs h1 => simp only [e1] at e; cases e
    | bad => simp only [e1] at e; cases e
    | ok q h1 =>
      simp only [e1] at e
      cases e2 : fv st h1 with
      | exc c fs h2 => simp only [e2] at e; cases e
      | bad => simp only [e2] at e; cases e
      | ok v h2 =>
        cases e4 : keyV q with
        | none => simp only [e2, e4] at e; cases e
        | some kk =>
          simp only [e2, e4] at e
          cases e3 : prL r st h2 with
          | exc c fs h3 => simp only [e3] at e; cases e
          | bad => simp only [e3] at e; cases e
          | ok ps1 h3 =>
            simp only [e3] at e
            cases e
            refine ⟨μ, st, h, S, L, ?_⟩
            show KO K cl (rV K cl) W0 μ h H σ (fk st h) _
            rw [e1]
            intro μ1 H1 x g1 S1 r1
            refine ⟨μ1, st, h1, S1, L.grow g1.toGrw, ?_⟩
            show KO K cl (rV K cl) W0 μ1 h1 H1 σ (fv st h1) _
            rw [e2]
            intro μ2 H2 y g2 S2 r2
            refine pairs_ok S2 ((L.grow g1.toGrw).grow g2.toGrw) e3 fun μ3 H3 xs g3 S3 rs => ?_
            have hx := keyV_ok r1 e4
            subst hx
            have := k μ3 H3 (y :: xs) (g1.trans (g2.trans g3)) S3 (.cons (VR.grow g3.toGrw r2) rs)
            exact this
theorem put_keys : ∀ {ps : List (Key × PV)} {xs : List V} {μ : Mp} {h : Hh} {H : Hp} {acc : List (PV × PV)} {kvs : List (Key × V)}, VRs K cl μ h H (ps.map (·.2)) xs → acc.map (fun q => keyV q.1) = kvs.map (fun q => some q.1) → (kvs.map (·.1)).Nodup → VRs K cl μ h H (acc.map (·.2)) (kvs.map (·.2)) →
    (putAll acc ps).map (fun q => keyV q.1) = (mergeK kvs (zipK ps xs)).map (fun q => some q.1) ∧ ((mergeK kvs (zipK ps xs)).map (·.1)).Nodup ∧ VRs K cl μ h H ((putAll acc ps).map (·.2)) ((mergeK kvs (zipK ps xs)).map (·.2))
  | [], xs, μ, h, H, acc, kvs, r, ek, nd, ra => by
    cases r
    exact ⟨ek, nd, ra⟩
  | p :: ps, xs, μ, h, H, acc, kvs, r, ek, nd, ra => by
    cases r with
    | cons r1 rs =>
      obtain ⟨i1, i2⟩ := dput_ok (k := p.1) r1 ek nd ra
      have z := put_keys rs i1 (putK_nd nd) i2
      exact z
theorem zipK_len : ∀ {ps : List (Key × PV)} {xs : List V}, ps.length = xs.length → (zipK ps xs).length = ps.length
  | [], [], _ => rfl
  | [], _ :: _, e => by cases e
  | _ :: _, [], e => by cases e
  | p :: ps, x :: xs, e => by
    show (zipK ps xs).length + 1 = ps.length + 1
    rw [zipK_len (Nat.succ.inj e)]
end
section
variable {X : Cx} {cl : En} {W : WX} {pos : Pos}
/-- the pairs of a display -/
structure PrK (X : Cx) (cl : En) (pos : Pos) (keys : List (Option Expr)) (values : List Expr) (fs : List (Ex × Ex)) : Prop where
  pps : PPs X pos keys values (fs.map fun f => (teOf X.K cl W0 f.1, teOf X.K cl W0 f.2))
  some_ : keys.all (·.isSome) = true
  lens : keys.length = values.length
  len : keys.length = fs.length
theorem d_nil : PrK X cl pos [] [] [] := ⟨pps_nil, rfl, rfl, rfl⟩
theorem d_cons {k v : Expr} {ks : List (Option Expr)} {vs : List Expr} {fk fv : Ex} {fs : List (Ex × Ex)} (hk : PE X k (teOf X.K cl W0 fk)) (hv : PE X v (teOf X.K cl W0 fv)) (hr : PrK X cl pos ks vs fs) : PrK X cl pos (some k :: ks) (v :: vs) ((fk, fv) :: fs) :=
  ⟨pps_cons hk hv hr.pps, by rw [List.all_cons, hr.some_]; rfl, by rw [List.length_cons, List.length_cons, hr.lens], by rw [List.length_cons, List.length_cons, hr.len]⟩
theorem e_disp {bb : Bool} {keys : List (Option Expr)} {values : List Expr} {fs : List (Ex × Ex)} (hp : PrK X cl pos keys values fs) (h0 : keys ≠ []) (h15 : keys.length ≤ 15) : PE X (.Dict keys values pos) (teOf X.K cl W (xDisp bb fs)) :=
  PE.w (pe_disp hp.pps hp.some_ hp.lens h0 h15) fun σ H Q ⟨μ, st, h, S, L, kk⟩ D hD => by
    have notR : D ∉ μ.res := fun z => by
      obtain ⟨⟨u, q⟩, _⟩ := S.rs D z
      rw [hD] at q; cases q
    have gh : Grw μ h H (μ.hold D) h (upd H D (.dK [])) := grw_hold hD
    unfold xDisp at kk
    by_cases hf : fs.length ≤ 15
    · rw [if_pos hf] at kk
      cases e : prL fs st h with
      | exc c fs h1 => simp only [e] at kk; exact kk.elim
      | bad => simp only [e] at kk; exact kk.elim
      | ok ps h1 =>
        simp only [e] at kk
        refine pairs_ok (S.hold hD) (L.grow gh) e fun μ1 H1 xs g1 S1 rs => ?_
        have inD1 : D ∈ μ1.res := by rw [g1.res]; exact List.mem_cons_self
        have hr1 : μ1.res = D :: μ.res := g1.res
        have eD1 := g1.rk D List.mem_cons_self _ upd_same
        have hps := prL_len e
        have hxs : ps.length = xs.length := by simpa using VRs.length rs
        refine ⟨eD1, zipK ps xs, rfl, by rw [zipK_len hxs, hps]; exact hf, ?_⟩
        obtain ⟨i1, i2, i3⟩ := put_keys (acc := []) (kvs := []) rs rfl .nil .nil
        have gw : Grw μ1 h1 H1 μ1 h1 (upd H1 D (.dK (mergeK [] (zipK ps xs)))) := ⟨fun _ _ e => e, fun _ x => .inl x, fun p o e n => by
          rw [upd_ne (show p ≠ D from fun z => n (by rw [z]; exact .inl inD1))]; exact e⟩
        have nD : D ∉ μ1.ids := (S1.rs D inD1).2
        have S3 : Sim X.K cl μ1 h1 (upd H1 D (.dK (mergeK [] (zipK ps xs)))) := S1.grw gw rfl (fun a ha => upd_ne fun z => nD (z ▸ ha)) fun a ha => by
          by_cases ha' : a = D
          · subst ha'; exact ⟨⟨_, upd_same⟩, nD⟩
          · rw [upd_ne ha']; exact S1.rs a ha
        have hrr : ∀ a, a ∈ μ.res → a ∈ μ1.res := fun a ha => by rw [hr1]; exact List.mem_cons_of_mem _ ha
        have hk : ∀ a, a ∈ μ.res → ∀ u, H a = some u → upd H1 D (.dK (mergeK [] (zipK ps xs))) a = some u := fun a ha u e => by
          rw [upd_ne fun z : a = D => by subst z; exact notR ha]
          exact g1.rk a (List.mem_cons_of_mem _ ha) u (by rw [upd_ne (ne_of_none e hD)]; exact e)
        cases bb with
        | true =>
          have gg := grw_give (H := upd H1 D (.dK (mergeK [] (zipK ps xs)))) (ob := .dct (putAll [] ps)) S3.len inD1 hrr
          exact kk (μ1.give D μ.res) _ (.ref D) ⟨gh.trans (g1.toGrw.trans (gw.trans gg)), rfl, hk⟩ (S3.give inD1 hrr notR (.dK upd_same i1 i2 (VRs.grow (gw.trans gg) i3))) (.ref (give_ref S3.len))
        | false =>
          have back : Grw μ1 h1 (upd H1 D (.dK (mergeK [] (zipK ps xs)))) ⟨μ1.ids, μ.res⟩ h1 (upd H1 D (.dK (mergeK [] (zipK ps xs)))) := ⟨fun _ _ e => e, fun a x => by
            rcases x with x | x
            · exact .inl (.inl (hrr a x))
            · exact .inl (.inr x), fun _ _ e _ => e⟩
          have nL : ¬ Live ⟨μ1.ids, μ.res⟩ h1 D := fun z => by
            rcases z with z | ⟨j, o, e1, _⟩
            · exact notR z
            · exact nD (List.mem_of_getElem? e1)
          exact kk ⟨μ1.ids, μ.res⟩ _ (.ref D) ⟨gh.trans (g1.toGrw.trans (gw.trans back)), rfl, hk⟩ (S3.grw back rfl (fun _ _ => rfl) fun a ha => S3.rs a (hrr a ha)) (.dct nL upd_same i1 i2 (VRs.grow (gw.trans back) i3))
    · rw [if_neg hf] at kk
      exact kk.elim
end
end TR

set_option Elab.async false
set_option linter.all false
set_option maxRecDepth 100000
set_option maxHeartbeats 4000000
namespace TR
open PySem PySem.Spec L2
open PyProof.Rows (envOfC)

/-! ### d.update(e) -/
/-- the pairs of a dict, keys ints and texts -/
def keyed : List (PV × PV) → Option (List (Key × PV))
  | [] => some []
  | (q, v) :: r => match keyV q, keyed r with
    | some k, some ps => some ((k, v) :: ps)
    | _, _ => none
def tDctR (v : PV) (h : Hh) : Bool := (asD v h).isSome
def gUpd (v : PV) (as : List PV) (h : Hh) : Rs PV := match v, as with
  | .ref n, [u] => match h[n]?, u with
    | some (.dct l), .dct m => match keyed m with
      | some ps => if l.length + m.length ≤ sizeLine then .ok .non (h.set n (.dct (putAll l ps))) else .bad
      | none => .bad
    | _, _ => .bad
  | _, _ => .bad
def rUpd : V → List V → Hp → VK → Prop := fun x xs H Q => ∃ a b kvs more, x = .ref a ∧ xs = [.ref b] ∧ a ≠ b ∧ H a = some (.dK kvs) ∧ H b = some (.dK more) ∧ kvs.length + more.length ≤ sizeLine ∧ Q .non (upd H a (.dK (mergeK kvs more)))
section
variable {X : Cx}
theorem mt_upd : MtR X "dict.update" rUpd := by
  intro pins s σ H x xs v us Q I rx rs ⟨a, b, kvs, more, ex, exs, hne, ha, hb, hz, q⟩
  subst ex exs
  cases (show v = Value.ref a from rx)
  cases rs with
  | @cons _ u _ ur ru rn =>
    cases rn
    obtain rfl : u = Value.ref b := ru
    obtain ⟨_, hd, vs1, r1, d1⟩ := dk_of I.hok ha
    obtain ⟨_, hd2, vs2, r2, d2⟩ := dk_of I.hok hb
    have l1 : kvs.length = vs1.length := Paired.length r1
    have l2 : more.length = vs2.length := Paired.length r2
    refine call_meetsIn PySem.F.slot_dict_update d1.typeIs PySem.F.entry_dict_update (PySem.F.args_dict_update_2 _ _) (meets_dict_update (mixKind X.prog X.w) a b hne hd2) ⟨vs1, vs2, d1, d2, by rw [← l1, ← l2]; exact hz, fun h' dd _ hs => ?_⟩
    have he : ∃ q, h'.get? a = some q := let ⟨q, _, _, hq, _⟩ := dd; ⟨q, hq⟩
    have hl := length_mergeK more kvs
    exact ⟨.non, _, d_write I (by rw [ha]; exact True.intro) hs he (dk_new (by omega) hd (r2.merge r1) dd), rfl, q⟩
end
section
variable {K : PySem.W.Frag} {cl : En}
theorem ty_dct : VTy K cl "dict" tDctR := fun μ h H v V S r e => by
  unfold tDctR asD at e
  cases r with
  | dct n hp ek nd rl => exact .inr (.inr (.inl ⟨rfl, .inl ⟨_, hp⟩⟩))
  | ref q =>
    rename_i i a
    dsimp only at e
    split at e
    · rename_i l e1
      cases S.at q e1 with
      | dK hp e2 nd rl => exact .inr (.inr (.inl ⟨rfl, .inl ⟨_, hp⟩⟩))
    · cases e
  | _ => cases e
theorem keyed_ok : ∀ {l : List (PV × PV)} {kvs : List (Key × V)} {ps : List (Key × PV)} {μ : Mp} {h : Hh} {H : Hp}, keyed l = some ps → l.map (fun q => keyV q.1) = kvs.map (fun q => some q.1) → VRs K cl μ h H (l.map (·.2)) (kvs.map (·.2)) →
    kvs = zipK ps (kvs.map (·.2)) ∧ VRs K cl μ h H (ps.map (·.2)) (kvs.map (·.2))
  | [], kvs, ps, μ, h, H, e, ek, r => by
    cases e
    cases kvs with
    | nil => exact ⟨rfl, .nil⟩
    | cons a t => cases ek
  | (q, v) :: l, kvs, ps, μ, h, H, e, ek, r => by
    cases kvs with
    | nil => cases ek
    | cons a t =>
      unfold keyed at e
      cases e1 : keyV q with
      | none => simp only [e1] at e; cases e
      | some k =>
        cases e2 : keyed l with
        | none => simp only [e1, e2] at e; cases e
        | some ps1 =>
          simp only [e1, e2] at e
          cases e
          simp only [List.map_cons, List.cons.injEq] at ek
          obtain ⟨z1, z2⟩ := ek
          cases r with
          | cons r1 rs =>
            obtain ⟨i1, i2⟩ := keyed_ok e2 z2 rs
            have hk : k = a.1 := Option.some.inj (e1.symm.trans z1)
            subst hk
            refine ⟨?_, .cons r1 i2⟩
            show a :: t = (a.1, a.2) :: zipK ps1 (t.map (·.2))
            rw [← i1]
theorem v_upd : VMt K cl gUpd rUpd := by
  intro μ h H a V as AS W σ Q S r rs k
  unfold gUpd at k
  split at k
  · rename_i n u
    obtain ⟨U, rfl, ru⟩ := vrs1 rs
    cases r with
    | ref q =>
      rename_i a
      split at k
      · rename_i l m e1
        cases ru with
        | @dct p kvs2 _ nl hp2 ek2 nd2 rl2 =>
          cases S.at q e1 with
          | dK hp ek nd rl =>
            rename_i kvs
            cases e3 : keyed m with
            | none => simp only [e3] at k; exact k.elim
            | some ps =>
              simp only [e3] at k
              by_cases hz : l.length + m.length ≤ sizeLine
              · rw [if_pos hz] at k
                obtain ⟨i1, i2⟩ := keyed_ok e3 ek2 rl2
                have hne : a ≠ p := fun z => nl (.inr ⟨n, _, by rw [← z]; exact q, e1, by intro z; cases z⟩)
                have h1 : l.length = kvs.length := by simpa using congrArg List.length ek
                have h2 : m.length = kvs2.length := by simpa using congrArg List.length ek2
                obtain ⟨j1, j2, j3⟩ := put_keys i2 ek nd rl
                rw [← i1] at j1 j2 j3
                have hk : ∀ p, p ≠ a → upd H a (.dK (mergeK kvs kvs2)) p = H p := fun p hq => upd_ne hq
                have gw := grow_set (ob := .dct (putAll l ps)) q e1 (by intro z; cases z) hk (S.nres q)
                exact ⟨a, p, kvs, kvs2, rfl, rfl, hne, hp, hp2, by rw [← h1, ← h2]; exact hz, k μ _ .non gw (S.set q e1 (by intro z; cases z) hk (.dK upd_same j1 j2 (VRs.grow gw.toGrw j3))) .non⟩
              · rw [if_neg hz] at k
                exact k.elim
      · exact k.elim
  · exact k.elim
end
end TR

set_option Elab.async false
set_option linter.all false
set_option maxRecDepth 100000
set_option maxHeartbeats 4000000
namespace TR
open PySem PySem.Spec L2
open PyProof.Rows (envOfC)

/-! ### try: .. except C as n: y = n.f -/
def sTryF (fb : Sx) (c : Nat) (f : Str) (i j : Nat) : Sx := fun st h => match fb st h with
  | .exc c' fs st1 h1 => if c' = c ∧ i < st1.length ∧ j < st1.length then match fs.lookup f with
      | some v => .nx ((st1.set j (some v)).set i none) h1
      | none => .bad
    else .bad
  | r => r
section
variable {K : PySem.W.Frag} {cl : En}
theorem look_vrs {μ : Mp} {h : Hh} {H : Hp} {f : Str} {v : PV} : ∀ {fs : List (Str × PV)} {ys : List (Str × V)}, fs.map (·.1) = ys.map (·.1) → VRs K cl μ h H (fs.map (·.2)) (ys.map (·.2)) → fs.lookup f = some v → ∃ x, ys.lookup f = some x ∧ VR K cl μ h H v x
  | [], ys, e, r, l => by cases l
  | (g, u) :: fs, [], e, r, l => by cases e
  | (g, u) :: fs, (g', y) :: ys, e, r, l => by
    simp only [List.map_cons, List.cons.injEq] at e
    obtain ⟨e1, e2⟩ := e
    subst e1
    cases r with
    | cons r1 rs =>
      rw [List.lookup_cons] at l ⊢
      cases q : (f == g) with
      | true =>
        rw [q] at l
        dsimp only at l ⊢
        cases l
        exact ⟨y, rfl, r1⟩
      | false =>
        rw [q] at l
        exact look_vrs e2 rs l
end
section
variable {X : Cx} {cl : En} {W : WX}
theorem s_tryF {x n y f : Str} {c i j : Nat} {body : List Stmt} {fb : Sx} {np pos pos' p1 p2 p3 p' : Pos} (hs : X.stack = X.env :: X.outer) (hf : X.env.frame = some X.env.locals) (hN : X.N.Nodup) (hi : X.N[i]? = some n) (hj : X.N[j]? = some y) (hij : i ≠ j)
    (hln : X.env.kindOf n = some .local) (hvn : Vis X.env.scope n) (hy : Loc X.env.scope y) (hg : Gl X x) (hm : X.mg x = some (.ref (cl.ca c))) (tk : Takes X W) (T : XfC X.K (cl.ca c)) (hno : PySem.W.findIn X.K (.ref (cl.ca c)) f = some none)
    (one : PySem.W.exmOne X.K (.ref (cl.ca c)) (.ref (cl.ca c)) = some true)
    (hb : ∀ (W : WX) (pn : List (Addr × Obj)) (xe : Value → Shared → Prop), Takes (X.tr pn xe) W → PassesOwn (model X.prog X.w) X.A X.env xe → PSs (X.tr pn xe) body (tsOf X.K cl W fb))
    (hdb : (x == ("__debug__" : Str)) = false := by decide) (hnd : (n == ("__debug__" : Str)) = false := by decide) (hncd : (n == ("__classdict__" : Str)) = false := by decide) (hfy : X.fn y = true ∨ X.env.scope.names.lookup y = some .local := by first | exact .inl rfl | exact .inr rfl | assumption) (hfn : X.fn n = true ∨ X.env.scope.names.lookup n = some .local := by first | exact .inl rfl | exact .inr rfl | assumption) :
    PS X (.Try body [.ExceptHandler (some (.Name x np)) (some n) [.Assign [.Name y p'] (.Attribute (.Name n p1) f p2) p3] pos'] [] [] pos) (tsOf X.K cl W (sTryF fb c f i j)) :=
  PS.w (ps_try_as hs hf hN hi hln ⟨hg, hdb, .inl hm⟩ tk hb fun a oe cls d pn hz hfl => pss_one (ps_set (X := X.suite a ((a, oe) :: pn)) hN hj hy (pe_xf T hno hz hfl (pe_var (X := X.suite a ((a, oe) :: pn)) hi hvn hnd hncd)) rfl hfy)) fun D σ H ⟨μ, st, h, S, L, k⟩ => ⟨μ, st, h, S, L, by
    unfold sTryF at k
    cases e : fb st h with
    | nx st1 h1 => rw [e] at k; exact k
    | bk st1 h1 => rw [e] at k; exact k
    | ct st1 h1 => rw [e] at k; exact k
    | ret v h1 => rw [e] at k; exact k
    | bad => rw [e] at k; exact k
    | exc c' fs st1 h1 =>
      rw [e] at k
      dsimp only at k
      by_cases hc : c' = c ∧ i < st1.length ∧ j < st1.length
      · rw [if_pos hc] at k
        obtain ⟨hc, hli, hlj⟩ := hc
        subst hc
        cases e2 : fs.lookup f with
        | none => rw [e2] at k; exact k.elim
        | some v =>
          rw [e2] at k
          intro μ1 H1 σ1 cls d g1 S1 L1 ⟨ec, ex⟩
          subst ec
          refine ⟨true, one, fun _ a ha => ?_, fun z => by cases z⟩
          rcases ex with ⟨z, _⟩ | ⟨dd, ys, ed, _, hd, en, rs⟩
          · rw [z] at e2; cases e2
          · obtain ⟨V, lv, rv⟩ := look_vrs en rs e2
            have hi1 : i < σ1.length := by rw [← L1.len]; exact hli
            have hj1 : j < σ1.length := by rw [← L1.len]; exact hlj
            refine ⟨.ref a, List.getElem?_set_self hi1, rfl, rfl, dd, ys, V, ed, hd, lv, ?_⟩
            refine k μ1 H1 _ g1 S1 ⟨by simp [L1.len], fun m u em => ?_⟩
            by_cases hm : m = i
            · subst hm
              rw [List.getElem?_set_self (by rw [List.length_set]; exact hli)] at em
              cases em
            · rw [List.getElem?_set_ne (fun z => hm z.symm)] at em ⊢
              by_cases hmj : m = j
              · subst hmj
                rw [List.getElem?_set_self hlj] at em
                cases em
                exact ⟨V, List.getElem?_set_self (by rw [List.length_set]; exact hj1), rv⟩
              · rw [List.getElem?_set_ne (fun z => hmj z.symm)] at em ⊢
                rw [List.getElem?_set_ne (fun z => hm z.symm)]
                exact L1.at_ m u em
      · rw [if_neg hc] at k
        exact k.elim⟩
end
end TR

set_option Elab.async false
set_option linter.all false
set_option maxRecDepth 100000
set_option maxHeartbeats 4000000
namespace TR
open PySem PySem.Spec L2
open PyProof.Rows (envOfC)

/-! ### x, y = a, b; x, y, z = a, b, c -/
def sPar (i j : Nat) (fa : Ea) : Sx := fun st h => (fa st h).toS st fun vs h1 => match vs with
  | [v, w] => .nx ((st.set i (some v)).set j (some w)) h1
  | _ => .bad
def sPar3 (i j l : Nat) (fa : Ea) : Sx := fun st h => (fa st h).toS st fun vs h1 => match vs with
  | [v, w, u] => .nx (((st.set i (some v)).set j (some w)).set l (some u)) h1
  | _ => .bad
section
variable {X : Cx} {cl : En} {W : WX} {a b c : Expr} {fa : Ea} {i j l : Nat} {x y z : Str} {px py pz pt pt2 pos : Pos} {kt k2 : Nat}
theorem s_par (hc : X.calm = true) (hN : X.N.Nodup) (hi : X.N[i]? = some x) (hj : X.N[j]? = some y) (hij : i ≠ j) (hx : X.env.scope.names.lookup x = some .local) (hy : X.env.scope.names.lookup y = some .local) (ha : PA X [a, b] (taOf X.K cl W fa))
    (hw : swappedStores [.Tuple [.Name x px, .Name y py] kt pt] (.Tuple [a, b] k2 pt2) X.env = pure (some [x, y]) := by rfl) : PS X (.Assign [.Tuple [.Name x px, .Name y py] kt pt] (.Tuple [a, b] k2 pt2) pos) (tsOf X.K cl W (sPar i j fa)) :=
  PS.w (ps_par hc hN hi hj hij hx hy ha hw) fun D σ H ⟨μ, st, h, S, L, k⟩ => ⟨μ, st, h, S, L, SO.seq L k fun μ1 h1 H1 vs VS g S1 L1 r1 k1 => by
    split at k1
    · obtain ⟨V, U, rfl, r1, r2⟩ := vrs2 r1
      exact ⟨V, U, rfl, k1 μ1 H1 _ (Grow.refl _ _ _) S1 ((L1.set i r1).set j r2)⟩
    · exact k1.elim⟩
theorem s_par3 (hc : X.calm = true) (hN : X.N.Nodup) (hi : X.N[i]? = some x) (hj : X.N[j]? = some y) (hl : X.N[l]? = some z) (hij : i ≠ j) (hil : i ≠ l) (hjl : j ≠ l) (hx : X.env.scope.names.lookup x = some .local) (hy : X.env.scope.names.lookup y = some .local) (hz : X.env.scope.names.lookup z = some .local) (ha : PA X [a, b, c] (taOf X.K cl W fa))
    (hw : swappedStores [.Tuple [.Name x px, .Name y py, .Name z pz] kt pt] (.Tuple [a, b, c] k2 pt2) X.env = pure (some [x, y, z]) := by rfl) : PS X (.Assign [.Tuple [.Name x px, .Name y py, .Name z pz] kt pt] (.Tuple [a, b, c] k2 pt2) pos) (tsOf X.K cl W (sPar3 i j l fa)) :=
  PS.w (ps_par3 hc hN hi hj hl hij hil hjl hx hy hz ha hw) fun D σ H ⟨μ, st, h, S, L, k⟩ => ⟨μ, st, h, S, L, SO.seq L k fun μ1 h1 H1 vs VS g S1 L1 r1 k1 => by
    split at k1
    · cases r1 with
      | cons q1 q =>
        obtain ⟨V, U, rfl, q2, q3⟩ := vrs2 q
        exact ⟨_, V, U, rfl, k1 μ1 H1 _ (Grow.refl _ _ _) S1 (((L1.set i q1).set j q2).set l q3)⟩
    · exact k1.elim⟩
end
end TR

set_option Elab.async false
set_option linter.all false
set_option maxRecDepth 100000
set_option maxHeartbeats 4000000
namespace TR
open PySem PySem.Spec L2
open PyProof.Rows (envOfC)
def top (i : Nat) : Stmt := PySem.Challenge.pw_trickfares_k06_systems_with_too_many_sta.main.body.getD i (.Pass ⟨0, 0, 0, 0⟩)
theorem hu16 {A : Around} {k : Nat} (hr : Room k A) : A.units + 16 < cLine := by have := hr.units; omega
def tab_FOLLOWERS : List (Str × PV) := [("", .tup [.str "slots"]), ("slots", .tup [.str "peak", .str "ride"]), ("peak", .tup [.str "ride"]), ("ride", .tup [.str "ride", .str "transfer", .str "cap", .str "bonus"]), ("transfer", .tup [.str "cap", .str "bonus"]), ("cap", .tup [.str "bonus"]), ("bonus", .tup [])]
def tab_BOUNDS : List (Str × PV) := [("slots", .tup [.tup [.int (1), .int (8)]]), ("ride", .tup [.tup [.int (0), .int (20)], .tup [.int (0), .int (20)]]), ("transfer", .tup [.tup [.int (0), .int (4)], .tup [.int (0), .int (20)]]), ("cap", .tup [.tup [.int (0), .int (20)]]), ("bonus", .tup [.tup [.int (2), .int (4)]])]
structure Tx (P : Program) (w : World) (K : PySem.W.Frag) (cl : En) (mg : Str → Option Value) where
  eP : cl.P = P
  ew : cl.w = w
  a_FareError : Addr
  mc_FareError : Value
  m_FareError : mg "FareError" = some (.ref a_FareError)
  r_FareError : ClX.CRead K a_FareError mc_FareError
  v_FareError : PySem.W.findCls K (.ref a_FareError) mc_FareError "__init__" = some (.val (.builtin "ValueError.__init__"))
  m_System : mg "System" = some (.ref (cl.ca 3))
  C_System : Cls K (cl.ca 3)
  f_System___init__ : Addr
  M_System : Mk K (cl.ca 3) f_System___init__
  mc_System : Value
  r_System : ClX.CRead K (cl.ca 3) mc_System
  h_System_rows : NoAttr K (cl.ca 3) "rows"
  h_System_slots : NoAttr K (cl.ca 3) "slots"
  h_System_peak_slots : NoAttr K (cl.ca 3) "peak_slots"
  h_System_prices : NoAttr K (cl.ca 3) "prices"
  h_System_letters : NoAttr K (cl.ca 3) "letters"
  h_System_transfer : NoAttr K (cl.ca 3) "transfer"
  h_System_cap : NoAttr K (cl.ca 3) "cap"
  h_System_bonus : NoAttr K (cl.ca 3) "bonus"
  f_copied : Addr
  d_copied : FuncData
  F_copied : FunD K "_copied" "_copied" (defArgs (top 1)) (defBody (top 1)) (defScope (top 1)) [] [] f_copied d_copied
  m_copied : mg "_copied" = some (.ref f_copied)
  f_InvalidText : Addr
  d_InvalidText : FuncData
  F_InvalidText : FunD K "__init__" "InvalidText.__init__" (defArgs (inClass (top 3) 0)) (defBody (inClass (top 3) 0)) (defScope (inClass (top 3) 0)) [] [] f_InvalidText d_InvalidText
  m_InvalidText : mg "InvalidText" = some (.ref (cl.ca 0))
  T_InvalidText : OexC K (cl.ca 0)
  i_InvalidText : PySem.W.findIn K (.ref (cl.ca 0)) "__init__" = some (some (.ref f_InvalidText))
  t_InvalidText : PySem.W.typeIn K (.ref f_InvalidText) = some (.type "function")
  h_InvalidText_row : PySem.W.findIn K (.ref (cl.ca 0)) "row" = some none
  f_TooLarge : Addr
  d_TooLarge : FuncData
  F_TooLarge : FunD K "__init__" "TooLarge.__init__" (defArgs (inClass (top 4) 0)) (defBody (inClass (top 4) 0)) (defScope (inClass (top 4) 0)) [] [] f_TooLarge d_TooLarge
  m_TooLarge : mg "TooLarge" = some (.ref (cl.ca 1))
  T_TooLarge : OexC K (cl.ca 1)
  i_TooLarge : PySem.W.findIn K (.ref (cl.ca 1)) "__init__" = some (some (.ref f_TooLarge))
  t_TooLarge : PySem.W.typeIn K (.ref f_TooLarge) = some (.type "function")
  h_TooLarge_bound : PySem.W.findIn K (.ref (cl.ca 1)) "bound" = some none
  f_number_in : Addr
  d_number_in : FuncData
  F_number_in : FunD K "number_in" "number_in" (defArgs (top 10)) (defBody (top 10)) (defScope (top 10)) [] [] f_number_in d_number_in
  m_number_in : mg "number_in" = some (.ref f_number_in)
  f_read_numbers : Addr
  d_read_numbers : FuncData
  F_read_numbers : FunD K "_read_numbers" "_read_numbers" (defArgs (top 11)) (defBody (top 11)) (defScope (top 11)) [] [] f_read_numbers d_read_numbers
  m_read_numbers : mg "_read_numbers" = some (.ref f_read_numbers)
  f_read_peak : Addr
  d_read_peak : FuncData
  F_read_peak : FunD K "_read_peak" "_read_peak" (defArgs (top 12)) (defBody (top 12)) (defScope (top 12)) [] [] f_read_peak d_read_peak
  m_read_peak : mg "_read_peak" = some (.ref f_read_peak)
  f_is_kind : Addr
  d_is_kind : FuncData
  F_is_kind : FunD K "_is_kind" "_is_kind" (defArgs (top 13)) (defBody (top 13)) (defScope (top 13)) [] [] f_is_kind d_is_kind
  m_is_kind : mg "_is_kind" = some (.ref f_is_kind)
  f_read_ride : Addr
  d_read_ride : FuncData
  F_read_ride : FunD K "_read_ride" "_read_ride" (defArgs (top 14)) (defBody (top 14)) (defScope (top 14)) [] [] f_read_ride d_read_ride
  m_read_ride : mg "_read_ride" = some (.ref f_read_ride)
  f_read_row : Addr
  d_read_row : FuncData
  F_read_row : FunD K "_read_row" "_read_row" (defArgs (top 15)) (defBody (top 15)) (defScope (top 15)) [] [] f_read_row d_read_row
  m_read_row : mg "_read_row" = some (.ref f_read_row)
  f_read_rows : Addr
  d_read_rows : FuncData
  F_read_rows : FunD K "read_rows" "read_rows" (defArgs (top 16)) (defBody (top 16)) (defScope (top 16)) [] [] f_read_rows d_read_rows
  m_read_rows : mg "read_rows" = some (.ref f_read_rows)
  f_write_rows : Addr
  d_write_rows : FuncData
  F_write_rows : FunD K "write_rows" "write_rows" (defArgs (top 17)) (defBody (top 17)) (defScope (top 17)) [] [] f_write_rows d_write_rows
  m_write_rows : mg "write_rows" = some (.ref f_write_rows)
  f_System__later : Addr
  d_System__later : FuncData
  F_System__later : FunD K "_later" "System._later" (defArgs (inClass (top 24) 6)) (defBody (inClass (top 24) 6)) (defScope (inClass (top 24) 6)) [] [] f_System__later d_System__later
  q_System__later : Meth K (cl.ca 3) "_later" f_System__later
  f_System__full_ride : Addr
  d_System__full_ride : FuncData
  F_System__full_ride : FunD K "_full_ride" "System._full_ride" (defArgs (inClass (top 24) 5)) (defBody (inClass (top 24) 5)) (defScope (inClass (top 24) 5)) [] [] f_System__full_ride d_System__full_ride
  q_System__full_ride : Meth K (cl.ca 3) "_full_ride" f_System__full_ride
  f_System_step : Addr
  d_System_step : FuncData
  F_System_step : FunD K "step" "System.step" (defArgs (inClass (top 24) 4)) (defBody (inClass (top 24) 4)) (defScope (inClass (top 24) 4)) [] [] f_System_step d_System_step
  q_System_step : Meth K (cl.ca 3) "step" f_System_step
  f_reached : Addr
  d_reached : FuncData
  F_reached : FunD K "reached" "reached" (defArgs (top 23)) (defBody (top 23)) (defScope (top 23)) [] [] f_reached d_reached
  m_reached : mg "reached" = some (.ref f_reached)
  d_System___init__ : FuncData
  F_System___init__ : FunD K "__init__" "System.__init__" (defArgs (inClass (top 24) 0)) (defBody (inClass (top 24) 0)) (defScope (inClass (top 24) 0)) [] [] f_System___init__ d_System___init__
  f_System_parse : Addr
  d_System_parse : FuncData
  F_System_parse : FunD K "parse" "System.parse" (defArgs (inClass (top 24) 1)) (defBody (inClass (top 24) 1)) (defScope (inClass (top 24) 1)) [] [] f_System_parse d_System_parse
  p_System_parse : Addr
  q_System_parse : ClX.CMet K (cl.ca 3) mc_System "parse" p_System_parse f_System_parse
  f_states : Addr
  d_states : FuncData
  F_states : FunD K "states" "states" (defArgs (top 26)) (defBody (top 26)) (defScope (top 26)) [] [] f_states d_states
  m_states : mg "states" = some (.ref f_states)
  f_law_feed : Addr
  d_law_feed : FuncData
  F_law_feed : FunD K "_law_feed" "_law_feed" (defArgs (top 28)) (defBody (top 28)) (defScope (top 28)) [] [] f_law_feed d_law_feed
  m_law_feed : mg "_law_feed" = some (.ref f_law_feed)
  f_law_take : Addr
  d_law_take : FuncData
  F_law_take : FunD K "_law_take" "_law_take" (defArgs (top 29)) (defBody (top 29)) (defScope (top 29)) [] [] f_law_take d_law_take
  m_law_take : mg "_law_take" = some (.ref f_law_take)
  f_law_pick : Addr
  d_law_pick : FuncData
  F_law_pick : FunD K "_law_pick" "_law_pick" (defArgs (top 30)) (defBody (top 30)) (defScope (top 30)) [] [] f_law_pick d_law_pick
  m_law_pick : mg "_law_pick" = some (.ref f_law_pick)
  f_law_text : Addr
  d_law_text : FuncData
  F_law_text : FunD K "_law_text" "_law_text" (defArgs (top 33)) (defBody (top 33)) (defScope (top 33)) [] [] f_law_text d_law_text
  m_law_text : mg "_law_text" = some (.ref f_law_text)
  f_law_letters : Addr
  d_law_letters : FuncData
  F_law_letters : FunD K "_law_letters" "_law_letters" (defArgs (top 34)) (defBody (top 34)) (defScope (top 34)) [] [] f_law_letters d_law_letters
  m_law_letters : mg "_law_letters" = some (.ref f_law_letters)
  f_law_base : Addr
  d_law_base : FuncData
  F_law_base : FunD K "_law_base" "_law_base" (defArgs (top 35)) (defBody (top 35)) (defScope (top 35)) [] [] f_law_base d_law_base
  m_law_base : mg "_law_base" = some (.ref f_law_base)
  f_law_step : Addr
  d_law_step : FuncData
  F_law_step : FunD K "_law_step" "_law_step" (defArgs (top 36)) (defBody (top 36)) (defScope (top 36)) [] [] f_law_step d_law_step
  m_law_step : mg "_law_step" = some (.ref f_law_step)
  f_law_states : Addr
  d_law_states : FuncData
  F_law_states : FunD K "_law_states" "_law_states" (defArgs (top 37)) (defBody (top 37)) (defScope (top 37)) [] [] f_law_states d_law_states
  m_law_states : mg "_law_states" = some (.ref f_law_states)
  f_law_large : Addr
  d_law_large : FuncData
  F_law_large : FunD K "_law_large" "_law_large" (defArgs (top 38)) (defBody (top 38)) (defScope (top 38)) [] [] f_law_large d_law_large
  m_law_large : mg "_law_large" = some (.ref f_law_large)
  f_law_big : Addr
  d_law_big : FuncData
  F_law_big : FunD K "_law_big" "_law_big" (defArgs (top 39)) (defBody (top 39)) (defScope (top 39)) [] [] f_law_big d_law_big
  m_law_big : mg "_law_big" = some (.ref f_law_big)
  f_law : Addr
  d_law : FuncData
  F_law : FunD K "law" "law" (defArgs (top 40)) (defBody (top 40)) (defScope (top 40)) [] [] f_law d_law
  m_law : mg "law" = some (.ref f_law)
  n_abs : mg "abs" = none
  n_dict : mg "dict" = none
  n_isinstance : mg "isinstance" = none
  n_len : mg "len" = none
  n_list : mg "list" = none
  n_max : mg "max" = none
  n_min : mg "min" = none
  n_range : mg "range" = none
  n_set : mg "set" = none
  n_sorted : mg "sorted" = none
  n_str : mg "str" = none
  n_tuple : mg "tuple" = none
  n_zip : mg "zip" = none
  u_MOST_KINDS : Value
  x_MOST_KINDS : V
  c_MOST_KINDS : mg "MOST_KINDS" = some u_MOST_KINDS
  r_MOST_KINDS : RelV x_MOST_KINDS u_MOST_KINDS
  v_MOST_KINDS : ∀ μ h H, VR K cl μ h H (.int 3) x_MOST_KINDS
  u_MOST_STATES : Value
  x_MOST_STATES : V
  c_MOST_STATES : mg "MOST_STATES" = some u_MOST_STATES
  r_MOST_STATES : RelV x_MOST_STATES u_MOST_STATES
  v_MOST_STATES : ∀ μ h H, VR K cl μ h H (.int 100) x_MOST_STATES
  u_NEW_CARD : Value
  x_NEW_CARD : V
  c_NEW_CARD : mg "NEW_CARD" = some u_NEW_CARD
  r_NEW_CARD : RelV x_NEW_CARD u_NEW_CARD
  v_NEW_CARD : ∀ μ h H, VR K cl μ h H (.tup [.int 0, .int 0, .int 0, .int 0]) x_NEW_CARD
  u_POINT : Value
  x_POINT : V
  c_POINT : mg "POINT" = some u_POINT
  r_POINT : RelV x_POINT u_POINT
  v_POINT : ∀ μ h H, VR K cl μ h H (.str ".") x_POINT
  a_BOUNDS : Addr
  m_BOUNDS : mg "BOUNDS" = some (.ref a_BOUNDS)
  t_BOUNDS : KTab K cl a_BOUNDS tab_BOUNDS
  a_FOLLOWERS : Addr
  m_FOLLOWERS : mg "FOLLOWERS" = some (.ref a_FOLLOWERS)
  t_FOLLOWERS : KTab K cl a_FOLLOWERS tab_FOLLOWERS
  x_TooLarge : XfC K (cl.ca 1)
  one_TooLarge : PySem.W.exmOne K (.ref (cl.ca 1)) (.ref (cl.ca 1)) = some true
section
variable {P : Program} {w : World} {K : PySem.W.Frag} {cl : En} {mg : Str → Option Value} {base : Heap}
def st_copied : Stmt := top 1
def r_copied : Nat → List PV → Hh → Rs PV
  | 0, _, _ => .bad
  | n + 1, as, h => runF 1 3 (sSeq (sIf (bOf (xCall gIsi (aCons (xVar 0) (aCons (xC (.ty "list")) (aNil))))) (sRet (xLc (iLst (xVar 0)) (.nm 1) (bYes) (xCall (r_copied n) (aCons (xVar 1) (aNil))) [1])) (sNext)) (sSeq (sIf (bOf (xCall gIsi (aCons (xVar 0) (aCons (xC (.ty "tuple")) (aNil))))) (sRet (xCall gTupO (aCons (xLc (iTupR (xVar 0)) (.nm 1) (bYes) (xCall (r_copied n) (aCons (xVar 1) (aNil))) [1]) (aNil)))) (sNext)) (sSeq (sIf (bOf (xCall gIsi (aCons (xVar 0) (aCons (xC (.ty "dict")) (aNil))))) (sNever) (sNext)) (sRet (xVar 0))))) as h
theorem len_copied : ∀ (n : Nat) (as : List PV) (h : Hh), r_copied n as h ≠ .bad → as.length = 1
  | 0, _, _, z => absurd rfl z
  | n + 1, as, h, z => runF_len as h z
theorem sc_copied : FnScope ["value", "part", "key"] ["value"] (defScope st_copied) := ⟨rfl, rfl, rfl, by decide +kernel, rfl, by decide +kernel, by decide +kernel⟩
theorem b_copied (T : Tx P w K cl mg) : Binds K T.d_copied ["value"] [] := T.F_copied.bindsN fun _ _ _ _ _ _ us hl => match us, hl with | [_], _ => rfl
theorem ok_copied (T : Tx P w K cl mg) : ∀ n : Nat, FnOk P w K mg base (L2.CX P w) (n + 1) T.f_copied T.d_copied ["value"] (spOf K cl 1 (r_copied n))
  | 0 => ⟨fun vs H Q E h => h.1, fun A outer s H args us vs Q E hr e0 hb hv h => h.2.elim fun μ z => z.elim fun h1 z => z.elim fun as z => z.2.2.elim⟩
  | n + 1 => fnOk (s := sSeq (sIf (bOf (xCall gIsi (aCons (xVar 0) (aCons (xC (.ty "list")) (aNil))))) (sRet (xLc (iLst (xVar 0)) (.nm 1) (bYes) (xCall (r_copied n) (aCons (xVar 1) (aNil))) [1])) (sNext)) (sSeq (sIf (bOf (xCall gIsi (aCons (xVar 0) (aCons (xC (.ty "tuple")) (aNil))))) (sRet (xCall gTupO (aCons (xLc (iTupR (xVar 0)) (.nm 1) (bYes) (xCall (r_copied n) (aCons (xVar 1) (aNil))) [1]) (aNil)))) (sNext)) (sSeq (sIf (bOf (xCall gIsi (aCons (xVar 0) (aCons (xC (.ty "dict")) (aNil))))) (sNever) (sNext)) (sRet (xVar 0))))) T.F_copied sc_copied rfl rfl fun cdv A outer s0 H E hr => s_cons (s_if (b_of (e_callB call_isi v_isi rfl T.n_isinstance (by decide +kernel) (a_cons (e_var 0 (pv 0)) (a_cons (e_bty rfl T.n_list (by decide +kernel)) (a_nil))))) (s_one (s_ret (e_lc (own := [("part", 1)]) rfl sc_copied.nd (i_lst (e_var 0 (pv 0))) (blkOk_by (own := [("part", 1)]) (N := ["value", "part", "key"]) (sc := (defScope st_copied)) (by decide +kernel)) rfl (fun _ _ _ _ _ => pg_name (i := 1) sc_copied.nd rfl (Or.inl rfl)) (fun _ _ _ _ _ => t_yes) (fun _ _ _ _ _ => e_call (ok_copied T n) rfl takes0 hr rfl T.m_copied T.F_copied.kp (b_copied T) (a_cons (e_var 1 (pv 1)) (a_nil)) (hc := len_copied n))))) (s_nil)) (s_cons (s_if (b_of (e_callB call_isi v_isi rfl T.n_isinstance (by decide +kernel) (a_cons (e_var 0 (pv 0)) (a_cons (e_bty rfl T.n_tuple (by decide +kernel)) (a_nil))))) (s_one (s_ret (e_callTy call_tuple_of v_tupO rfl T.n_tuple (by decide +kernel) (a_cons (e_lc (own := [("part", 1)]) rfl sc_copied.nd (i_tup (e_var 0 (pv 0))) (blkOk_by (own := [("part", 1)]) (N := ["value", "part", "key"]) (sc := (defScope st_copied)) (by decide +kernel)) rfl (fun _ _ _ _ _ => pg_name (i := 1) sc_copied.nd rfl (Or.inl rfl)) (fun _ _ _ _ _ => t_yes) (fun _ _ _ _ _ => e_call (ok_copied T n) rfl takes0 hr rfl T.m_copied T.F_copied.kp (b_copied T) (a_cons (e_var 1 (pv 1)) (a_nil)) (hc := len_copied n))) (a_nil))))) (s_nil)) (s_cons (s_if (b_of (e_callB call_isi v_isi rfl T.n_isinstance (by decide +kernel) (a_cons (e_var 0 (pv 0)) (a_cons (e_bty rfl T.n_dict (by decide +kernel)) (a_nil))))) (s_one (s_never)) (s_nil)) (s_one (s_ret (e_var 0 (pv 0))))))
def st_InvalidText : Stmt := inClass (top 3) 0
theorem sc_InvalidText : FnScope ["self", "row"] ["self", "row"] (defScope st_InvalidText) := ⟨rfl, rfl, rfl, by decide +kernel, rfl, by decide +kernel, by decide +kernel⟩
theorem okx_InvalidText (T : Tx P w K cl mg) : FnOk P w K mg base (L2.CX P w) 8 T.f_InvalidText T.d_InvalidText ["self", "row"] (spEx K cl 0 1 1 (r_copied 6) [("row", 1)]) :=
  exOk T.F_InvalidText sc_InvalidText rfl rfl T.T_InvalidText (fun f i hm => by
    simp only [List.mem_cons, Prod.mk.injEq, List.not_mem_nil, or_false] at hm
    rcases hm with ⟨rfl, rfl⟩
    all_goals first | exact T.h_InvalidText_row) fun cdv A outer s0 H E hr => pss_cons (ps_expr (pe_kinit rfl T.m_FareError T.r_FareError T.v_FareError (pa_cons (pv 0) (pa_cons pe_str pa_nil)))) (pss_cons (ps_ost (pv 0) (e_call (ok_copied T 6) rfl takes0 (hr.mono (by decide)) rfl T.m_copied T.F_copied.kp (b_copied T) (a_cons (e_var 1 (pv 1)) a_nil) (hc := len_copied 6))) (pss_nil))
theorem bx_InvalidText (T : Tx P w K cl mg) : Binds K T.d_InvalidText ["self", "row"] [] := T.F_InvalidText.bindsN fun _ _ _ _ _ _ us hl => match us, hl with | [_, _], _ => rfl
def st_TooLarge : Stmt := inClass (top 4) 0
theorem sc_TooLarge : FnScope ["self", "bound"] ["self", "bound"] (defScope st_TooLarge) := ⟨rfl, rfl, rfl, by decide +kernel, rfl, by decide +kernel, by decide +kernel⟩
theorem okx_TooLarge (T : Tx P w K cl mg) : FnOk P w K mg base (L2.CX P w) 8 T.f_TooLarge T.d_TooLarge ["self", "bound"] (spEx K cl 1 1 1 (r_copied 6) [("bound", 1)]) :=
  exOk T.F_TooLarge sc_TooLarge rfl rfl T.T_TooLarge (fun f i hm => by
    simp only [List.mem_cons, Prod.mk.injEq, List.not_mem_nil, or_false] at hm
    rcases hm with ⟨rfl, rfl⟩
    all_goals first | exact T.h_TooLarge_bound) fun cdv A outer s0 H E hr => pss_cons (ps_expr (pe_kinit rfl T.m_FareError T.r_FareError T.v_FareError (pa_cons (pv 0) (pa_cons pe_str pa_nil)))) (pss_cons (ps_ost (pv 0) (e_call (ok_copied T 6) rfl takes0 (hr.mono (by decide)) rfl T.m_copied T.F_copied.kp (b_copied T) (a_cons (e_var 1 (pv 1)) a_nil) (hc := len_copied 6))) (pss_nil))
theorem bx_TooLarge (T : Tx P w K cl mg) : Binds K T.d_TooLarge ["self", "bound"] [] := T.F_TooLarge.bindsN fun _ _ _ _ _ _ us hl => match us, hl with | [_, _], _ => rfl
def st_number_in : Stmt := top 10
def r_number_in : List PV → Hh → Rs PV := runF 3 4 (sSeq (sFor (iRange2 (aCons (xVar 1) (aCons (xOp gAdd (xVar 2) (xC (.int 1))) (aNil)))) (.nm 3) (sIf (bOf (xOp (gEqD false) (xVar 0) (xCall gStrI (aCons (xVar 3) (aNil))))) (sRet (xVar 3)) (sNext))) (sRet (xC .non)))
theorem sc_number_in : FnScope ["word", "low", "high", "number"] ["word", "low", "high"] (defScope st_number_in) := ⟨rfl, rfl, rfl, by decide +kernel, rfl, by decide +kernel, by decide +kernel⟩
theorem ok_number_in (T : Tx P w K cl mg) : FnOk P w K mg base (L2.CX P w) 1 T.f_number_in T.d_number_in ["word", "low", "high"] (spOf K cl 3 r_number_in) :=
  fnOk T.F_number_in sc_number_in rfl rfl fun cdv A outer s0 H E hr => s_cons (s_for (passes_of rfl) rfl (i_range2 rfl T.n_range (a_cons (e_var 1 (pv 1)) (a_cons (e_op op_add v_add (e_var 2 (pv 2)) (e_int)) (a_nil)))) (pg_name (i := 3) sc_number_in.nd rfl (Or.inl rfl)) (s_one (s_if (b_cmp (op_eqD hr.units) v_eqD (e_var 0 (pv 0)) (e_callTy call_str_int v_strI rfl T.n_str (by decide +kernel) (a_cons (e_var 3 (pv 3)) (a_nil))) rfl) (s_one (s_ret (e_var 3 (pv 3)))) (s_nil)))) (s_one (s_ret (e_non)))
theorem b_number_in (T : Tx P w K cl mg) : Binds K T.d_number_in ["word", "low", "high"] [] := T.F_number_in.bindsN fun _ _ _ _ _ _ us hl => match us, hl with | [_, _, _], _ => rfl
def st_read_numbers : Stmt := top 11
def r_read_numbers : List PV → Hh → Rs PV := runF 2 7 (sSeq (sSet 2 (xTab tab_BOUNDS (xOp gIxL (xVar 0) (xC (.int 0))))) (sSeq (sIf (bOf (xOp (gEqD true) (xCall gLen (aCons (xVar 0) (aNil))) (xOp gAdd (xVar 1) (xCall gLen (aCons (xVar 2) (aNil)))))) (sRet (xC .non)) (sNext)) (sSeq (sSet 3 (xLc (iZipR (aCons (xSl gSlL (xVar 0) (pSome (xVar 1)) (pNone)) (aCons (xVar 2) (aNil)))) (.tp [.nm 4, .tp [.nm 5, .nm 6]]) (bYes) (xCall r_number_in (aCons (xVar 4) (aCons (xVar 5) (aCons (xVar 6) (aNil))))) [4, 5, 6])) (sRet (xIf (bOf (xOp (gIn false) (xC .non) (xVar 3))) (xC .non) (xCall gTupO (aCons (xOp gCatL (xSl gSlL (xVar 0) (pNone) (pSome (xVar 1))) (xVar 3)) (aNil))))))))
theorem sc_read_numbers : FnScope ["words", "at", "bounds", "numbers", "word", "low", "high"] ["words", "at"] (defScope st_read_numbers) := ⟨rfl, rfl, rfl, by decide +kernel, rfl, by decide +kernel, by decide +kernel⟩
theorem ok_read_numbers (T : Tx P w K cl mg) : FnOk P w K mg base (L2.CX P w) 2 T.f_read_numbers T.d_read_numbers ["words", "at"] (spOf K cl 2 r_read_numbers) :=
  fnOk T.F_read_numbers sc_read_numbers rfl rfl fun cdv A outer s0 H E hr => s_cons (s_set (i := 2) sc_read_numbers.nd rfl (Or.inl rfl) (e_tab ⟨T.eP, T.ew⟩ rfl T.m_BOUNDS T.t_BOUNDS (e_ix ix_list v_ixL (e_var 0 (pv 0)) (e_int) (fun _ _ => rfl)) (fun _ _ => rfl))) (s_cons (s_if (b_cmp (op_neD hr.units) v_neD (e_callB call_len v_len rfl T.n_len (by decide +kernel) (a_cons (e_var 0 (pv 0)) (a_nil))) (e_op op_add v_add (e_var 1 (pv 1)) (e_callB call_len v_len rfl T.n_len (by decide +kernel) (a_cons (e_var 2 (pv 2)) (a_nil)))) rfl) (s_one (s_ret (e_non))) (s_nil)) (s_cons (s_setLc (own := [("word", 4), ("low", 5), ("high", 6)]) rfl sc_read_numbers.nd rfl rfl (sw_true rfl rfl rfl (by decide +kernel)) (i_zip rfl T.n_zip (a_cons (e_sl sl_list v_slL (e_var 0 (pv 0)) (p_some (e_var 1 (pv 1))) (p_none)) (a_cons (e_var 2 (pv 2)) (a_nil)))) (blkOk_by (own := [("word", 4), ("low", 5), ("high", 6)]) (N := ["words", "at", "bounds", "numbers", "word", "low", "high"]) (sc := (defScope st_read_numbers)) (by decide +kernel)) rfl (fun _ _ _ _ _ => pg_tup rfl (pgs_cons (pg_name (i := 4) sc_read_numbers.nd rfl (Or.inl rfl)) (pgs_cons (pg_tup rfl (pgs_cons (pg_name (i := 5) sc_read_numbers.nd rfl (Or.inl rfl)) (pgs_cons (pg_name (i := 6) sc_read_numbers.nd rfl (Or.inl rfl)) (pgs_nil)))) (pgs_nil)))) (fun _ _ _ _ _ => t_yes) (fun _ _ _ _ _ => e_call (ok_number_in T) rfl takes0 (hr.mono (by decide)) rfl T.m_number_in T.F_number_in.kp (b_number_in T) (a_cons (e_var 4 (pv 4)) (a_cons (e_var 5 (pv 5)) (a_cons (e_var 6 (pv 6)) (a_nil)))) (hc := runF_len))) (s_one (s_ret (e_if (b_cmp op_in_seq v_in (e_non) (e_var 3 (pv 3)) rfl) (e_non) (e_callTy call_tuple_of v_tupO rfl T.n_tuple (by decide +kernel) (a_cons (e_op op_cat v_catL (e_sl sl_list v_slL (e_var 0 (pv 0)) (p_none) (p_some (e_var 1 (pv 1)))) (e_var 3 (pv 3))) (a_nil))))))))
theorem b_read_numbers (T : Tx P w K cl mg) : Binds K T.d_read_numbers ["words", "at"] [] := T.F_read_numbers.bindsN fun _ _ _ _ _ _ us hl => match us, hl with | [_, _], _ => rfl
def st_read_peak : Stmt := top 12
def r_read_peak : List PV → Hh → Rs PV := runF 2 4 (sSeq (sSet 2 (xLc (iLst (xSl gSlL (xVar 0) (pSome (xC (.int 1))) (pNone))) (.nm 3) (bYes) (xCall r_number_in (aCons (xVar 3) (aCons (xC (.int 0)) (aCons (xOp gSub (xVar 1) (xC (.int 1))) (aNil))))) [3])) (sSeq (sIf (bOr (bNot (bTru (xVar 2))) (bOr (bOf (xOp (gIn false) (xC .non) (xVar 2))) (bOf (xOp (gEqD true) (xVar 2) (xSortSet (aCons (xVar 2) (aNil))))))) (sRet (xC .non)) (sNext)) (sRet (xCall gTupO (aCons (xOp gCatL (xLst (aCons (xC (.str "peak")) (aNil))) (xVar 2)) (aNil))))))
theorem sc_read_peak : FnScope ["words", "slots", "numbers", "word"] ["words", "slots"] (defScope st_read_peak) := ⟨rfl, rfl, rfl, by decide +kernel, rfl, by decide +kernel, by decide +kernel⟩
theorem ok_read_peak (T : Tx P w K cl mg) : FnOk P w K mg base (L2.CX P w) 2 T.f_read_peak T.d_read_peak ["words", "slots"] (spOf K cl 2 r_read_peak) :=
  fnOk T.F_read_peak sc_read_peak rfl rfl fun cdv A outer s0 H E hr => s_cons (s_setLc (own := [("word", 3)]) rfl sc_read_peak.nd rfl rfl (sw_true rfl rfl rfl (by decide +kernel)) (i_lst (e_sl sl_list v_slL (e_var 0 (pv 0)) (p_some (e_int)) (p_none))) (blkOk_by (own := [("word", 3)]) (N := ["words", "slots", "numbers", "word"]) (sc := (defScope st_read_peak)) (by decide +kernel)) rfl (fun _ _ _ _ _ => pg_name (i := 3) sc_read_peak.nd rfl (Or.inl rfl)) (fun _ _ _ _ _ => t_yes) (fun _ _ _ _ _ => e_call (ok_number_in T) rfl takes0 (hr.mono (by decide)) rfl T.m_number_in T.F_number_in.kp (b_number_in T) (a_cons (e_var 3 (pv 3)) (a_cons (e_int) (a_cons (e_op op_sub v_sub (e_var 1 (pv 1)) (e_int)) (a_nil)))) (hc := runF_len))) (s_cons (s_if (PW.pt (w_or (b_not (b_tru (e_var 2 (pv 2)))) (w_or (b_cmp op_in_seq v_in (e_non) (e_var 2 (pv 2)) rfl) (w_or1 (b_cmp (op_neD hr.units) v_neD (e_var 2 (pv 2)) (e_sortset rfl rfl T.n_sorted rfl T.n_set (a_cons (e_var 2 (pv 2)) (a_nil))) rfl))))) (s_one (s_ret (e_non))) (s_nil)) (s_one (s_ret (e_callTy call_tuple_of v_tupO rfl T.n_tuple (by decide +kernel) (a_cons (e_op op_cat v_catL (e_lst (a_cons (e_str) (a_nil))) (e_var 2 (pv 2))) (a_nil))))))
theorem b_read_peak (T : Tx P w K cl mg) : Binds K T.d_read_peak ["words", "slots"] [] := T.F_read_peak.bindsN fun _ _ _ _ _ _ us hl => match us, hl with | [_, _], _ => rfl
def st_is_kind : Stmt := top 13
def r_is_kind : List PV → Hh → Rs PV := runF 1 1 (sRet (xAnd (xOp (gEqD false) (xCall gLen (aCons (xVar 0) (aNil))) (xC (.int 1))) (xChain gLeS gLeS (xC (.str "a")) (xVar 0) (xC (.str "z")))))
theorem sc_is_kind : FnScope ["word"] ["word"] (defScope st_is_kind) := ⟨rfl, rfl, rfl, by decide +kernel, rfl, by decide +kernel, by decide +kernel⟩
theorem ok_is_kind (T : Tx P w K cl mg) : FnOk P w K mg base (L2.CX P w) 1 T.f_is_kind T.d_is_kind ["word"] (spOf K cl 1 r_is_kind) :=
  fnOk T.F_is_kind sc_is_kind rfl rfl fun cdv A outer s0 H E hr => s_one (s_ret (e_and (e_cmp (op_eqD hr.units) v_eqD (e_callB call_len v_len rfl T.n_len (by decide +kernel) (a_cons (e_var 0 (pv 0)) (a_nil))) (e_int) rfl) (e_one (e_chain op_le_str op_le_str v_leS v_leS (e_str) (e_var 0 (pv 0)) (e_str)))))
theorem b_is_kind (T : Tx P w K cl mg) : Binds K T.d_is_kind ["word"] [] := T.F_is_kind.bindsN fun _ _ _ _ _ _ us hl => match us, hl with | [_], _ => rfl
def st_read_ride : Stmt := top 14
def r_read_ride : List PV → Hh → Rs PV := runF 2 4 (sSeq (sSet 2 (xLcD 1000000 (xVar 1) (.nm 3) (bOf (xOp (gEqD false) (xOp gIxT (xVar 3) (xC (.int 0))) (xC (.str "ride")))) (xOp gIxT (xVar 3) (xC (.int 1))) [3])) (sSeq (sIf (bOr (bOf (xOp (gEqD false) (xCall gLen (aCons (xVar 2) (aNil))) (xC (.int 3)))) (bOr (bOf (xOp gLt (xCall gLen (aCons (xVar 0) (aNil))) (xC (.int 2)))) (bNot (bOf (xCall r_is_kind (aCons (xOp gIxL (xVar 0) (xC (.int 1))) (aNil))))))) (sRet (xC .non)) (sNext)) (sSeq (sIf (bAnd (bTru (xVar 2)) (bOf (xOp gLeS (xOp gIxL (xVar 0) (xC (.int 1))) (xOp gIxL (xVar 2) (xNeg (xC (.int 1))))))) (sRet (xC .non)) (sNext)) (sRet (xCall r_read_numbers (aCons (xVar 0) (aCons (xC (.int 2)) (aNil))))))))
theorem sc_read_ride : FnScope ["words", "before", "kinds", "row"] ["words", "before"] (defScope st_read_ride) := ⟨rfl, rfl, rfl, by decide +kernel, rfl, by decide +kernel, by decide +kernel⟩
theorem ok_read_ride (T : Tx P w K cl mg) : FnOk P w K mg base (L2.CX P w) 3 T.f_read_ride T.d_read_ride ["words", "before"] (spOf K cl 2 r_read_ride) :=
  fnOk T.F_read_ride sc_read_ride rfl rfl fun cdv A outer s0 H E hr => s_cons (s_setLcD 1000000 (own := [("row", 3)]) rfl sc_read_ride.nd rfl rfl (sw_true rfl rfl rfl (by decide +kernel)) (e_var 1 (pv 1)) (blkOk_by (own := [("row", 3)]) (N := ["words", "before", "kinds", "row"]) (sc := (defScope st_read_ride)) (by decide +kernel)) rfl (fun _ _ _ _ _ => pg_name (i := 3) sc_read_ride.nd rfl (Or.inl rfl)) (fun _ _ _ _ _ => t_one (b_cmp (op_eqD hr.units) v_eqD (e_ix ix_tup v_ixT (e_var 3 (pv 3)) (e_int) (fun _ _ => rfl)) (e_str) rfl)) (fun _ _ _ _ _ => e_ix ix_tup v_ixT (e_var 3 (pv 3)) (e_int) (fun _ _ => rfl))) (s_cons (s_if (PW.pt (w_or (b_cmp (op_eqD hr.units) v_eqD (e_callB call_len v_len rfl T.n_len (by decide +kernel) (a_cons (e_var 2 (pv 2)) (a_nil))) (e_glob rfl T.c_MOST_KINDS T.r_MOST_KINDS (fun μ h H => T.v_MOST_KINDS μ h H)) rfl) (w_or (b_cmp op_lt v_lt (e_callB call_len v_len rfl T.n_len (by decide +kernel) (a_cons (e_var 0 (pv 0)) (a_nil))) (e_int) rfl) (w_or1 (b_not (b_of (e_call (ok_is_kind T) rfl (takes_of rfl rfl rfl rfl) (hr.mono (by decide)) rfl T.m_is_kind T.F_is_kind.kp (b_is_kind T) (a_cons (e_ix ix_list v_ixL (e_var 0 (pv 0)) (e_int) (fun _ _ => rfl)) (a_nil)) (hc := runF_len)))))))) (s_one (s_ret (e_non))) (s_nil)) (s_cons (s_if (PW.pt (w_and (b_tru (e_var 2 (pv 2))) (w_and1 (b_cmp op_le_str v_leS (e_ix ix_list v_ixL (e_var 0 (pv 0)) (e_int) (fun _ _ => rfl)) (e_ix ix_list v_ixL (e_var 2 (pv 2)) (e_neg (e_int)) (fun _ _ => rfl)) rfl)))) (s_one (s_ret (e_non))) (s_nil)) (s_one (s_ret (e_call (ok_read_numbers T) rfl (takes_of rfl rfl rfl rfl) (hr.mono (by decide)) rfl T.m_read_numbers T.F_read_numbers.kp (b_read_numbers T) (a_cons (e_var 0 (pv 0)) (a_cons (e_int) (a_nil))) (hc := runF_len))))))
theorem b_read_ride (T : Tx P w K cl mg) : Binds K T.d_read_ride ["words", "before"] [] := T.F_read_ride.bindsN fun _ _ _ _ _ _ us hl => match us, hl with | [_, _], _ => rfl
def st_read_row : Stmt := top 15
def r_read_row : List PV → Hh → Rs PV := runF 2 3 (sSeq (sSet 2 (xIf (bTru (xVar 1)) (xOp gIxT (xOp gIxL (xVar 1) (xNeg (xC (.int 1)))) (xC (.int 0))) (xC (.str "")))) (sSeq (sIf (bOf (xOp (gIn true) (xOp gIxL (xVar 0) (xC (.int 0))) (xTab tab_FOLLOWERS (xVar 2)))) (sRet (xC .non)) (sNext)) (sSeq (sIf (bOf (xOp (gEqD false) (xOp gIxL (xVar 0) (xC (.int 0))) (xC (.str "peak")))) (sRet (xCall r_read_peak (aCons (xVar 0) (aCons (xOp gIxT (xOp gIxL (xVar 1) (xC (.int 0))) (xC (.int 1))) (aNil))))) (sNext)) (sSeq (sIf (bOf (xOp (gEqD false) (xOp gIxL (xVar 0) (xC (.int 0))) (xC (.str "ride")))) (sRet (xCall r_read_ride (aCons (xVar 0) (aCons (xVar 1) (aNil))))) (sNext)) (sRet (xCall r_read_numbers (aCons (xVar 0) (aCons (xC (.int 1)) (aNil)))))))))
theorem sc_read_row : FnScope ["words", "before", "last"] ["words", "before"] (defScope st_read_row) := ⟨rfl, rfl, rfl, by decide +kernel, rfl, by decide +kernel, by decide +kernel⟩
theorem ok_read_row (T : Tx P w K cl mg) : FnOk P w K mg base (L2.CX P w) 4 T.f_read_row T.d_read_row ["words", "before"] (spOf K cl 2 r_read_row) :=
  fnOk T.F_read_row sc_read_row rfl rfl fun cdv A outer s0 H E hr => s_cons (s_set (i := 2) sc_read_row.nd rfl (Or.inl rfl) (e_if (b_tru (e_var 1 (pv 1))) (e_ix ix_tup v_ixT (e_ix ix_list v_ixL (e_var 1 (pv 1)) (e_neg (e_int)) (fun _ _ => rfl)) (e_int) (fun _ _ => rfl)) (e_str))) (s_cons (s_if (b_cmp op_notIn_seq v_in (e_ix ix_list v_ixL (e_var 0 (pv 0)) (e_int) (fun _ _ => rfl)) (e_tab ⟨T.eP, T.ew⟩ rfl T.m_FOLLOWERS T.t_FOLLOWERS (e_var 2 (pv 2)) (fun _ _ => rfl)) rfl) (s_one (s_ret (e_non))) (s_nil)) (s_cons (s_if (b_cmp (op_eqD hr.units) v_eqD (e_ix ix_list v_ixL (e_var 0 (pv 0)) (e_int) (fun _ _ => rfl)) (e_str) rfl) (s_one (s_ret (e_call (ok_read_peak T) rfl (takes_of rfl rfl rfl rfl) (hr.mono (by decide)) rfl T.m_read_peak T.F_read_peak.kp (b_read_peak T) (a_cons (e_var 0 (pv 0)) (a_cons (e_ix ix_tup v_ixT (e_ix ix_list v_ixL (e_var 1 (pv 1)) (e_int) (fun _ _ => rfl)) (e_int) (fun _ _ => rfl)) (a_nil))) (hc := runF_len)))) (s_nil)) (s_cons (s_if (b_cmp (op_eqD hr.units) v_eqD (e_ix ix_list v_ixL (e_var 0 (pv 0)) (e_int) (fun _ _ => rfl)) (e_str) rfl) (s_one (s_ret (e_call (ok_read_ride T) rfl (takes_of rfl rfl rfl rfl) (hr.mono (by decide)) rfl T.m_read_ride T.F_read_ride.kp (b_read_ride T) (a_cons (e_var 0 (pv 0)) (a_cons (e_var 1 (pv 1)) (a_nil))) (hc := runF_len)))) (s_nil)) (s_one (s_ret (e_call (ok_read_numbers T) rfl (takes_of rfl rfl rfl rfl) (hr.mono (by decide)) rfl T.m_read_numbers T.F_read_numbers.kp (b_read_numbers T) (a_cons (e_var 0 (pv 0)) (a_cons (e_int) (a_nil))) (hc := runF_len)))))))
theorem b_read_row (T : Tx P w K cl mg) : Binds K T.d_read_row ["words", "before"] [] := T.F_read_row.bindsN fun _ _ _ _ _ _ us hl => match us, hl with | [_, _], _ => rfl
def st_read_rows : Stmt := top 16
def r_read_rows : List PV → Hh → Rs PV := runF 1 4 (sSeq (sSet 1 (xLstI (aNil))) (sSeq (sFor (iLst (xBM tStr gSplit (xVar 0) (aCons (xC (.str "\n")) (aNil)))) (.nm 2) (sSeq (sSet 3 (xCall r_read_row (aCons (xBM tStr gSplit (xVar 2) (aCons (xC (.str " ")) (aNil))) (aCons (xVar 1) (aNil))))) (sSeq (sIf (bOf (xOp (gIsN false) (xVar 3) (xC .non))) (sRaise 0 1 (r_copied 6) [("row", 1)] (aCons (xCall gLen (aCons (xVar 1) (aNil))) (aNil))) (sNext)) (sDrop (xBM tList gAppend (xVar 1) (aCons (xVar 3) (aNil))))))) (sSeq (sIf (bOf (xOp (gIn false) (xOp gIxT (xOp gIxL (xVar 1) (xNeg (xC (.int 1)))) (xC (.int 0))) (xTup (aCons (xC (.str "slots")) (aCons (xC (.str "peak")) (aNil)))))) (sRaise 0 1 (r_copied 6) [("row", 1)] (aCons (xCall gLen (aCons (xVar 1) (aNil))) (aNil))) (sNext)) (sRet (xFrzA (xVar 1))))))
theorem sc_read_rows : FnScope ["text", "rows", "line", "row"] ["text"] (defScope st_read_rows) := ⟨rfl, rfl, rfl, by decide +kernel, rfl, by decide +kernel, by decide +kernel⟩
theorem ok_read_rows (T : Tx P w K cl mg) : FnOk P w K mg base (L2.CX P w) 10 T.f_read_rows T.d_read_rows ["text"] (spOf K cl 1 r_read_rows) :=
  fnOk T.F_read_rows sc_read_rows rfl rfl fun cdv A outer s0 H E hr => s_cons (s_set (i := 1) sc_read_rows.nd rfl (Or.inl rfl) (e_lstI (a_nil))) (s_cons (s_for (passes_of rfl) rfl (i_lst (e_bm F.plainAttrs_str F.slot_str_split F.type_str_split mt_split ty_str v_split (e_var 0 (pv 0)) (a_cons (e_str) (a_nil)))) (pg_name (i := 2) sc_read_rows.nd rfl (Or.inl rfl)) (s_cons (s_set (i := 3) sc_read_rows.nd rfl (Or.inl rfl) (e_call (ok_read_row T) rfl (takes_of rfl rfl rfl rfl) (hr.mono (by decide)) rfl T.m_read_row T.F_read_row.kp (b_read_row T) (a_cons (e_bm F.plainAttrs_str F.slot_str_split F.type_str_split mt_split ty_str v_split (e_var 2 (pv 2)) (a_cons (e_str) (a_nil))) (a_cons (e_var 1 (pv 1)) (a_nil))) (hc := runF_len))) (s_cons (s_if (b_cmp op_isN v_isN (e_var 3 (pv 3)) (e_non) rfl) (s_one (s_raise rfl (takes_of rfl rfl rfl rfl) T.T_InvalidText T.i_InvalidText T.t_InvalidText (okx_InvalidText T) (hr.mono (by decide)) (bx_InvalidText T) passL rfl T.m_InvalidText (a_cons (e_callB call_len v_len rfl T.n_len (by decide +kernel) (a_cons (e_var 1 (pv 1)) (a_nil))) (a_nil)) rfl (by decide) (aLenS (aLen0)))) (s_nil)) (s_one (s_drop (e_bm F.plainAttrs_list F.slot_list_append F.type_list_append mt_append ty_list v_append (e_var 1 (pv 1)) (a_cons (e_var 3 (pv 3)) (a_nil)))))))) (s_cons (s_if (b_cmp op_in_seq v_in (e_ix ix_tup v_ixT (e_ix ix_list v_ixL (e_var 1 (pv 1)) (e_neg (e_int)) (fun _ _ => rfl)) (e_int) (fun _ _ => rfl)) (e_tup (a_cons (e_str) (a_cons (e_str) (a_nil)))) rfl) (s_one (s_raise rfl (takes_of rfl rfl rfl rfl) T.T_InvalidText T.i_InvalidText T.t_InvalidText (okx_InvalidText T) (hr.mono (by decide)) (bx_InvalidText T) passL rfl T.m_InvalidText (a_cons (e_callB call_len v_len rfl T.n_len (by decide +kernel) (a_cons (e_var 1 (pv 1)) (a_nil))) (a_nil)) rfl (by decide) (aLenS (aLen0)))) (s_nil)) (s_one (s_ret (e_frzA (e_var 1 (pv 1)))))))
theorem b_read_rows (T : Tx P w K cl mg) : Binds K T.d_read_rows ["text"] [] := T.F_read_rows.bindsN fun _ _ _ _ _ _ us hl => match us, hl with | [_], _ => rfl
def st_write_rows : Stmt := top 17
def r_write_rows : List PV → Hh → Rs PV := runF 1 3 (sRet (xBM tStr gJoin (xC (.str "\n")) (aCons (xLc (iTupR (xVar 0)) (.nm 1) (bYes) (xBM tStr gJoin (xC (.str " ")) (aCons (xLc (iTupR (xVar 1)) (.nm 2) (bYes) (xCall gStrA (aCons (xVar 2) (aNil))) [2]) (aNil))) [1]) (aNil))))
theorem sc_write_rows : FnScope ["rows", "row", "part"] ["rows"] (defScope st_write_rows) := ⟨rfl, rfl, rfl, by decide +kernel, rfl, by decide +kernel, by decide +kernel⟩
theorem ok_write_rows (T : Tx P w K cl mg) : FnOk P w K mg base (L2.CX P w) 1 T.f_write_rows T.d_write_rows ["rows"] (spOf K cl 1 r_write_rows) :=
  fnOk T.F_write_rows sc_write_rows rfl rfl fun cdv A outer s0 H E hr => s_one (s_ret (e_bm F.plainAttrs_str F.slot_str_join F.type_str_join mt_join ty_str v_join (e_str) (a_cons (e_lc (own := [("row", 1)]) rfl sc_write_rows.nd (i_tup (e_var 0 (pv 0))) (blkOk_by (own := [("row", 1)]) (N := ["rows", "row", "part"]) (sc := (defScope st_write_rows)) (by decide +kernel)) rfl (fun _ _ _ _ _ => pg_name (i := 1) sc_write_rows.nd rfl (Or.inl rfl)) (fun _ _ _ _ _ => t_yes) (fun _ _ _ _ _ => e_bm F.plainAttrs_str F.slot_str_join F.type_str_join mt_join ty_str v_join (e_str) (a_cons (e_lc (own := [("part", 2)]) rfl sc_write_rows.nd (i_tup (e_var 1 (pv 1))) (blkOk_by (own := [("part", 2)]) (by rfl)) rfl (fun _ _ _ _ _ => pg_name (i := 2) sc_write_rows.nd rfl (Or.inl rfl)) (fun _ _ _ _ _ => t_yes) (fun _ _ _ _ _ => e_callTy cr_strA v_strA rfl T.n_str (by decide +kernel) (a_cons (e_var 2 (pv 2)) (a_nil)))) (a_nil)))) (a_nil))))
theorem b_write_rows (T : Tx P w K cl mg) : Binds K T.d_write_rows ["rows"] [] := T.F_write_rows.bindsN fun _ _ _ _ _ _ us hl => match us, hl with | [_], _ => rfl
def st_System__later : Stmt := inClass (top 24) 6
def r_System__later : List PV → Hh → Rs PV := runF 2 6 (sSeq (sAsg (.tp [.nm 2, .nm 3, .nm 4, .nm 5]) (xVar 1)) (sSeq (sIf (bOf (xOp (gEqD false) (xVar 2) (xOp gSub (xFld 3 "slots" (xVar 0)) (xC (.int 1))))) (sSeq (sSet 2 (xC (.int 0))) (sSet 4 (xC (.int 0)))) (sSet 2 (xOp gAdd (xVar 2) (xC (.int 1))))) (sRet (xTup (aCons (xVar 2) (aCons (xCall gMax2 (aCons (xOp gSub (xVar 3) (xC (.int 1))) (aCons (xC (.int 0)) (aNil)))) (aCons (xVar 4) (aCons (xVar 5) (aNil)))))))))
theorem sc_System__later : FnScope ["self", "state", "slot", "left", "paid", "count"] ["self", "state"] (defScope st_System__later) := ⟨rfl, rfl, rfl, by decide +kernel, rfl, by decide +kernel, by decide +kernel⟩
theorem ok_System__later (T : Tx P w K cl mg) : FnOk P w K mg base (L2.CX P w) 1 T.f_System__later T.d_System__later ["self", "state"] (spOf K cl 2 r_System__later) :=
  fnOk T.F_System__later sc_System__later rfl rfl fun cdv A outer s0 H E hr => s_cons (s_asg (e_var 1 (pv 1)) (pg_tup rfl (pgs_cons (pg_name (i := 2) sc_System__later.nd rfl (Or.inl rfl)) (pgs_cons (pg_name (i := 3) sc_System__later.nd rfl (Or.inl rfl)) (pgs_cons (pg_name (i := 4) sc_System__later.nd rfl (Or.inl rfl)) (pgs_cons (pg_name (i := 5) sc_System__later.nd rfl (Or.inl rfl)) (pgs_nil))))))) (s_cons (s_if (b_cmp (op_eqD hr.units) v_eqD (e_var 2 (pv 2)) (e_op op_sub v_sub (e_fld T.C_System T.h_System_slots (e_var 0 (pv 0))) (e_int)) rfl) (s_cons (s_set (i := 2) sc_System__later.nd rfl (Or.inl rfl) (e_int)) (s_one (s_set (i := 4) sc_System__later.nd rfl (Or.inl rfl) (e_int)))) (s_one (s_set (i := 2) sc_System__later.nd rfl (Or.inl rfl) (e_op op_add v_add (e_var 2 (pv 2)) (e_int))))) (s_one (s_ret (e_tup (a_cons (e_var 2 (pv 2)) (a_cons (e_callB (call_max2 rfl) v_max2 rfl T.n_max (by decide +kernel) (a_cons (e_op op_sub v_sub (e_var 3 (pv 3)) (e_int)) (a_cons (e_int) (a_nil)))) (a_cons (e_var 4 (pv 4)) (a_cons (e_var 5 (pv 5)) (a_nil)))))))))
theorem b_System__later (T : Tx P w K cl mg) : Binds K T.d_System__later ["self", "state"] [] := T.F_System__later.bindsN fun _ _ _ _ _ _ us hl => match us, hl with | [_, _], _ => rfl
def st_System__full_ride : Stmt := inClass (top 24) 5
def r_System__full_ride : List PV → Hh → Rs PV := runF 3 3 (sSeq (sIf (bOf (xOp (gIsN false) (xFld 3 "bonus" (xVar 0)) (xC .non))) (sRet (xTup (aCons (xVar 1) (aCons (xVar 2) (aNil))))) (sNext)) (sSeq (sIf (bOf (xOp (gEqD false) (xOp gAdd (xVar 1) (xC (.int 1))) (xFld 3 "bonus" (xVar 0)))) (sRet (xTup (aCons (xC (.int 0)) (aCons (xC (.int 0)) (aNil))))) (sNext)) (sRet (xTup (aCons (xOp gAdd (xVar 1) (xC (.int 1))) (aCons (xVar 2) (aNil)))))))
theorem sc_System__full_ride : FnScope ["self", "count", "cost"] ["self", "count", "cost"] (defScope st_System__full_ride) := ⟨rfl, rfl, rfl, by decide +kernel, rfl, by decide +kernel, by decide +kernel⟩
theorem ok_System__full_ride (T : Tx P w K cl mg) : FnOk P w K mg base (L2.CX P w) 1 T.f_System__full_ride T.d_System__full_ride ["self", "count", "cost"] (spOf K cl 3 r_System__full_ride) :=
  fnOk T.F_System__full_ride sc_System__full_ride rfl rfl fun cdv A outer s0 H E hr => s_cons (s_if (b_cmp op_isN v_isN (e_fld T.C_System T.h_System_bonus (e_var 0 (pv 0))) (e_non) rfl) (s_one (s_ret (e_tup (a_cons (e_var 1 (pv 1)) (a_cons (e_var 2 (pv 2)) (a_nil)))))) (s_nil)) (s_cons (s_if (b_cmp (op_eqD hr.units) v_eqD (e_op op_add v_add (e_var 1 (pv 1)) (e_int)) (e_fld T.C_System T.h_System_bonus (e_var 0 (pv 0))) rfl) (s_one (s_ret (e_tup (a_cons (e_int) (a_cons (e_int) (a_nil)))))) (s_nil)) (s_one (s_ret (e_tup (a_cons (e_op op_add v_add (e_var 1 (pv 1)) (e_int)) (a_cons (e_var 2 (pv 2)) (a_nil)))))))
theorem b_System__full_ride (T : Tx P w K cl mg) : Binds K T.d_System__full_ride ["self", "count", "cost"] [] := T.F_System__full_ride.bindsN fun _ _ _ _ _ _ us hl => match us, hl with | [_, _, _], _ => rfl
def st_System_step : Stmt := inClass (top 24) 4
def r_System_step : List PV → Hh → Rs PV := runF 3 10 (sSeq (sIf (bOf (xOp (gEqD false) (xVar 2) (xC (.str ".")))) (sRet (xTup (aCons (xMeth 3 "_later" r_System__later (xVar 0) (aCons (xVar 1) (aNil))) (aCons (xC (.int 0)) (aNil))))) (sNext)) (sSeq (sAsg (.tp [.nm 4, .nm 5, .nm 6, .nm 7]) (xVar 1)) (sSeq (sAsg (.tp [.nm 8, .nm 9]) (xOp gDGet (xFld 3 "prices" (xVar 0)) (xVar 2))) (sSeq (sSet 3 (xIf (bOf (xOp (gIn false) (xVar 4) (xFld 3 "peak_slots" (xVar 0)))) (xVar 9) (xVar 8))) (sSeq (sIf (bOf (xOp gGt (xVar 5) (xC (.int 0)))) (sSet 3 (xCall gMin2 (aCons (xVar 3) (aCons (xOp gIxT (xFld 3 "transfer" (xVar 0)) (xC (.int 1))) (aNil))))) (sSeq (sSet 5 (xIf (bOf (xOp (gIsN false) (xFld 3 "transfer" (xVar 0)) (xC .non))) (xC (.int 0)) (xOp gAdd (xOp gIxT (xFld 3 "transfer" (xVar 0)) (xC (.int 0))) (xC (.int 1))))) (sAsg (.tp [.nm 7, .nm 3]) (xMeth 3 "_full_ride" r_System__full_ride (xVar 0) (aCons (xVar 7) (aCons (xVar 3) (aNil))))))) (sSeq (sIf (bOf (xOp (gIsN true) (xFld 3 "cap" (xVar 0)) (xC .non))) (sSeq (sSet 3 (xCall gMin2 (aCons (xVar 3) (aCons (xOp gSub (xFld 3 "cap" (xVar 0)) (xVar 6)) (aNil))))) (sSet 6 (xOp gAdd (xVar 6) (xVar 3)))) (sNext)) (sRet (xTup (aCons (xTup (aCons (xVar 4) (aCons (xVar 5) (aCons (xVar 6) (aCons (xVar 7) (aNil)))))) (aCons (xVar 3) (aNil)))))))))))
theorem sc_System_step : FnScope ["self", "state", "letter", "cost", "slot", "left", "paid", "count", "price", "peak_price"] ["self", "state", "letter"] (defScope st_System_step) := ⟨rfl, rfl, rfl, by decide +kernel, rfl, by decide +kernel, by decide +kernel⟩
theorem ok_System_step (T : Tx P w K cl mg) : FnOk P w K mg base (L2.CX P w) 2 T.f_System_step T.d_System_step ["self", "state", "letter"] (spOf K cl 3 r_System_step) :=
  fnOk T.F_System_step sc_System_step rfl rfl fun cdv A outer s0 H E hr => s_cons (s_if (b_cmp (op_eqD hr.units) v_eqD (e_var 2 (pv 2)) (e_glob rfl T.c_POINT T.r_POINT (fun μ h H => T.v_POINT μ h H)) rfl) (s_one (s_ret (e_tup (a_cons (e_meth T.C_System T.q_System__later (ok_System__later T) (takes_of rfl rfl rfl rfl) (hr.mono (by decide)) (b_System__later T) runF_len (e_var 0 (pv 0)) (a_cons (e_var 1 (pv 1)) (a_nil))) (a_cons (e_int) (a_nil)))))) (s_nil)) (s_cons (s_asg (e_var 1 (pv 1)) (pg_tup rfl (pgs_cons (pg_name (i := 4) sc_System_step.nd rfl (Or.inl rfl)) (pgs_cons (pg_name (i := 5) sc_System_step.nd rfl (Or.inl rfl)) (pgs_cons (pg_name (i := 6) sc_System_step.nd rfl (Or.inl rfl)) (pgs_cons (pg_name (i := 7) sc_System_step.nd rfl (Or.inl rfl)) (pgs_nil))))))) (s_cons (s_asg (e_dget (hu_of hr) (e_fld T.C_System T.h_System_prices (e_var 0 (pv 0))) (e_var 2 (pv 2)) (fun _ _ => rfl)) (pg_tup rfl (pgs_cons (pg_name (i := 8) sc_System_step.nd rfl (Or.inl rfl)) (pgs_cons (pg_name (i := 9) sc_System_step.nd rfl (Or.inl rfl)) (pgs_nil))))) (s_cons (s_set (i := 3) sc_System_step.nd rfl (Or.inl rfl) (e_if (b_cmp op_in_seq v_in (e_var 4 (pv 4)) (e_fld T.C_System T.h_System_peak_slots (e_var 0 (pv 0))) rfl) (e_var 9 (pv 9)) (e_var 8 (pv 8)))) (s_cons (s_if (b_cmp op_gt v_gt (e_var 5 (pv 5)) (e_int) rfl) (s_one (s_set (i := 3) sc_System_step.nd rfl (Or.inl rfl) (e_callB (call_min2 rfl) v_min2 rfl T.n_min (by decide +kernel) (a_cons (e_var 3 (pv 3)) (a_cons (e_ix ix_tup v_ixT (e_fld T.C_System T.h_System_transfer (e_var 0 (pv 0))) (e_int) (fun _ _ => rfl)) (a_nil)))))) (s_cons (s_set (i := 5) sc_System_step.nd rfl (Or.inl rfl) (e_if (b_cmp op_isN v_isN (e_fld T.C_System T.h_System_transfer (e_var 0 (pv 0))) (e_non) rfl) (e_int) (e_op op_add v_add (e_ix ix_tup v_ixT (e_fld T.C_System T.h_System_transfer (e_var 0 (pv 0))) (e_int) (fun _ _ => rfl)) (e_int)))) (s_one (s_asg (e_meth T.C_System T.q_System__full_ride (ok_System__full_ride T) (takes_of rfl rfl rfl rfl) (hr.mono (by decide)) (b_System__full_ride T) runF_len (e_var 0 (pv 0)) (a_cons (e_var 7 (pv 7)) (a_cons (e_var 3 (pv 3)) (a_nil)))) (pg_tup rfl (pgs_cons (pg_name (i := 7) sc_System_step.nd rfl (Or.inl rfl)) (pgs_cons (pg_name (i := 3) sc_System_step.nd rfl (Or.inl rfl)) (pgs_nil)))))))) (s_cons (s_if (b_cmp op_notN v_notN (e_fld T.C_System T.h_System_cap (e_var 0 (pv 0))) (e_non) rfl) (s_cons (s_set (i := 3) sc_System_step.nd rfl (Or.inl rfl) (e_callB (call_min2 rfl) v_min2 rfl T.n_min (by decide +kernel) (a_cons (e_var 3 (pv 3)) (a_cons (e_op op_sub v_sub (e_fld T.C_System T.h_System_cap (e_var 0 (pv 0))) (e_var 6 (pv 6))) (a_nil))))) (s_one (s_set (i := 6) sc_System_step.nd rfl (Or.inl rfl) (e_op op_add v_add (e_var 6 (pv 6)) (e_var 3 (pv 3)))))) (s_nil)) (s_one (s_ret (e_tup (a_cons (e_tup (a_cons (e_var 4 (pv 4)) (a_cons (e_var 5 (pv 5)) (a_cons (e_var 6 (pv 6)) (a_cons (e_var 7 (pv 7)) (a_nil)))))) (a_cons (e_var 3 (pv 3)) (a_nil)))))))))))
theorem b_System_step (T : Tx P w K cl mg) : Binds K T.d_System_step ["self", "state", "letter"] [] := T.F_System_step.bindsN fun _ _ _ _ _ _ us hl => match us, hl with | [_, _, _], _ => rfl
def st_reached : Stmt := top 23
def r_reached : List PV → Hh → Rs PV := runF 2 8 (sSeq (sSet 2 (xLstI (aCons (xC (.tup [.int 0, .int 0, .int 0, .int 0])) (aNil)))) (sSeq (sSet 3 (xDisp1 (xC (.tup [.int 0, .int 0, .int 0, .int 0])) (xC (.bl true)))) (sSeq (sSet 4 (xC (.int 0))) (sSeq (whlL (bAnd (bOf (xOp gLt (xVar 4) (xCall gLen (aCons (xVar 2) (aNil))))) (bOf (xOp gLe (xCall gLen (aCons (xVar 2) (aNil))) (xVar 1)))) (sSeq (sFor (iStrR (xFld 3 "letters" (xVar 0))) (.nm 5) (sSeq (sAsg (.tp [.nm 6, .nm 7]) (xMeth 3 "step" r_System_step (xVar 0) (aCons (xOp gIxL (xVar 2) (xVar 4)) (aCons (xVar 5) (aNil))))) (sIf (bOf (xOp (gNIn true) (xVar 6) (xVar 3))) (sSeq (sNPutR (xVar 3) (xVar 6) (xC (.bl true))) (sDrop (xBM tList gAppend (xVar 2) (aCons (xVar 6) (aNil))))) (sNext)))) (sAug 4 gAdd (xC (.int 1)))) 1000000) (sRet (xFrzA (xVar 2)))))))
theorem sc_reached : FnScope ["system", "bound", "found", "known", "at", "letter", "state", "_"] ["system", "bound"] (defScope st_reached) := ⟨rfl, rfl, rfl, by decide +kernel, rfl, by decide +kernel, by decide +kernel⟩
theorem ok_reached (T : Tx P w K cl mg) : FnOk P w K mg base (L2.CX P w) 3 T.f_reached T.d_reached ["system", "bound"] (spOf K cl 2 r_reached) :=
  fnOk T.F_reached sc_reached rfl rfl fun cdv A outer s0 H E hr => s_cons (s_set (i := 2) sc_reached.nd rfl (Or.inl rfl) (e_lstI (a_cons (e_glob rfl T.c_NEW_CARD T.r_NEW_CARD (fun μ h H => T.v_NEW_CARD μ h H)) (a_nil)))) (s_cons (s_set (i := 3) sc_reached.nd rfl (Or.inl rfl) (e_disp1 ⟨T.eP, T.ew⟩ (hu16 hr) (e_glob rfl T.c_NEW_CARD T.r_NEW_CARD (fun μ h H => T.v_NEW_CARD μ h H)) (e_bl))) (s_cons (s_set (i := 4) sc_reached.nd rfl (Or.inl rfl) (e_int)) (s_cons (s_whl 1000000 (passes_of rfl) (PW.pt (w_and (b_cmp op_lt v_lt (e_var 4 (pv 4)) (e_callB call_len v_len rfl T.n_len (by decide +kernel) (a_cons (e_var 2 (pv 2)) (a_nil))) rfl) (w_and1 (b_cmp op_le v_le (e_callB call_len v_len rfl T.n_len (by decide +kernel) (a_cons (e_var 2 (pv 2)) (a_nil))) (e_var 1 (pv 1)) rfl)))) (s_cons (s_for (passes_of rfl) rfl (i_str (e_fld T.C_System T.h_System_letters (e_var 0 (pv 0)))) (pg_name (i := 5) sc_reached.nd rfl (Or.inl rfl)) (s_cons (s_asg (e_meth T.C_System T.q_System_step (ok_System_step T) (takes_of rfl rfl rfl rfl) (hr.mono (by decide)) (b_System_step T) runF_len (e_var 0 (pv 0)) (a_cons (e_ix ix_list v_ixL (e_var 2 (pv 2)) (e_var 4 (pv 4)) (fun _ _ => rfl)) (a_cons (e_var 5 (pv 5)) (a_nil)))) (pg_tup rfl (pgs_cons (pg_name (i := 6) sc_reached.nd rfl (Or.inl rfl)) (pgs_cons (pg_name (i := 7) sc_reached.nd rfl (Or.inl rfl)) (pgs_nil))))) (s_one (s_if (b_nnotin ⟨T.eP, T.ew⟩ (hu16 hr) (e_var 6 (pv 6)) (e_var 3 (pv 3))) (s_cons (s_nput ⟨T.eP, T.ew⟩ (hu16 hr) (e_var 3 (pv 3)) (e_var 6 (pv 6)) (e_bl)) (s_one (s_drop (e_bm F.plainAttrs_list F.slot_list_append F.type_list_append mt_append ty_list v_append (e_var 2 (pv 2)) (a_cons (e_var 6 (pv 6)) (a_nil)))))) (s_nil))))) (s_one (s_aug (i := 4) sc_reached.nd rfl (Or.inl rfl) (e_int) iop_add v_add)))) (s_one (s_ret (e_frzA (e_var 2 (pv 2))))))))
theorem b_reached (T : Tx P w K cl mg) : Binds K T.d_reached ["system", "bound"] [] := T.F_reached.bindsN fun _ _ _ _ _ _ us hl => match us, hl with | [_, _], _ => rfl
def st_System___init__ : Stmt := inClass (top 24) 0
def r_System___init__ : List PV → Hh → Rs PV := runF 2 4 (sSeq (sFldS 3 "rows" (xVar 0) (xCall gTupO (aCons (xVar 1) (aNil)))) (sSeq (sSet 2 (xDc false (iLst (xVar 1)) (.nm 3) (bYes) (xOp gIxT (xVar 3) (xC (.int 0))) (xSl gSlT (xVar 3) (pSome (xC (.int 1))) (pNone)) [3])) (sSeq (sFldS 3 "slots" (xVar 0) (xOp gIxT (xOp gDGet (xVar 2) (xC (.str "slots"))) (xC (.int 0)))) (sSeq (sFldS 3 "peak_slots" (xVar 0) (xDGet2 (xVar 2) (xC (.str "peak")) (xTup (aNil)))) (sSeq (sFldS 3 "prices" (xVar 0) (xDc false (iLst (xVar 1)) (.nm 3) (bOf (xOp (gEqD false) (xOp gIxT (xVar 3) (xC (.int 0))) (xC (.str "ride")))) (xOp gIxT (xVar 3) (xC (.int 1))) (xSl gSlT (xVar 3) (pSome (xC (.int 2))) (pNone)) [3])) (sSeq (sFldS 3 "letters" (xVar 0) (xOp gCatS (xBM tStr gJoin (xC (.str "")) (aCons (xCall gListD (aCons (xFld 3 "prices" (xVar 0)) (aNil))) (aNil))) (xC (.str ".")))) (sSeq (sFldS 3 "transfer" (xVar 0) (xDGet1 (xVar 2) (xC (.str "transfer")))) (sSeq (sFldS 3 "cap" (xVar 0) (xIf (bOf (xOp (gDIn false) (xC (.str "cap")) (xVar 2))) (xOp gIxT (xOp gDGet (xVar 2) (xC (.str "cap"))) (xC (.int 0))) (xC .non))) (sSeq (sFldS 3 "bonus" (xVar 0) (xIf (bOf (xOp (gDIn false) (xC (.str "bonus")) (xVar 2))) (xOp gIxT (xOp gDGet (xVar 2) (xC (.str "bonus"))) (xC (.int 0))) (xC .non))) (sIf (bOf (xOp gGt (xCall gLen (aCons (xCall r_reached (aCons (xVar 0) (aCons (xC (.int 100)) (aNil)))) (aNil))) (xC (.int 100)))) (sRaise 1 1 (r_copied 6) [("bound", 1)] (aCons (xC (.int 100)) (aNil))) (sNext)))))))))))
theorem sc_System___init__ : FnScope ["self", "rows", "numbers", "row"] ["self", "rows"] (defScope st_System___init__) := ⟨rfl, rfl, rfl, by decide +kernel, rfl, by decide +kernel, by decide +kernel⟩
theorem ok_System___init__ (T : Tx P w K cl mg) : FnOk P w K mg base (L2.CX P w) 10 T.f_System___init__ T.d_System___init__ ["self", "rows"] (spOf K cl 2 r_System___init__) :=
  fnOk T.F_System___init__ sc_System___init__ rfl rfl fun cdv A outer s0 H E hr => s_cons (s_fld T.C_System T.h_System_rows (e_var 0 (pv 0)) (e_callTy call_tuple_of v_tupO rfl T.n_tuple (by decide +kernel) (a_cons (e_var 1 (pv 1)) (a_nil)))) (s_cons (s_setDc (own := [("row", 3)]) rfl sc_System___init__.nd rfl rfl (sw_trueD rfl rfl rfl (by decide +kernel)) (i_lst (e_var 1 (pv 1))) (blkOk_by (own := [("row", 3)]) (N := ["self", "rows", "numbers", "row"]) (sc := (defScope st_System___init__)) (by decide +kernel)) rfl (fun _ _ _ _ _ => pg_name (i := 3) sc_System___init__.nd rfl (Or.inl rfl)) (fun _ _ _ _ _ => t_yes) (fun _ _ _ _ _ => e_ix ix_tup v_ixT (e_var 3 (pv 3)) (e_int) (fun _ _ => rfl)) (fun _ _ _ _ _ => e_sl sl_tupA v_slT (e_var 3 (pv 3)) (p_some (e_int)) (p_none))) (s_cons (s_fld T.C_System T.h_System_slots (e_var 0 (pv 0)) (e_ix ix_tup v_ixT (e_dget (hu_of hr) (e_var 2 (pv 2)) (e_str) (fun _ _ => rfl)) (e_int) (fun _ _ => rfl))) (s_cons (s_fld T.C_System T.h_System_peak_slots (e_var 0 (pv 0)) (e_dget2 (hu_of hr) (e_var 2 (pv 2)) (e_str) (e_tup (a_nil)) ⟨rfl, rfl, rfl, rfl⟩)) (s_cons (s_fld T.C_System T.h_System_prices (e_var 0 (pv 0)) (e_dc (own := [("row", 3)]) rfl sc_System___init__.nd (i_lst (e_var 1 (pv 1))) (blkOk_by (own := [("row", 3)]) (N := ["self", "rows", "numbers", "row"]) (sc := (defScope st_System___init__)) (by decide +kernel)) rfl (fun _ _ _ _ _ => pg_name (i := 3) sc_System___init__.nd rfl (Or.inl rfl)) (fun _ _ _ _ _ => t_one (b_cmp (op_eqD hr.units) v_eqD (e_ix ix_tup v_ixT (e_var 3 (pv 3)) (e_int) (fun _ _ => rfl)) (e_str) rfl)) (fun _ _ _ _ _ => e_ix ix_tup v_ixT (e_var 3 (pv 3)) (e_int) (fun _ _ => rfl)) (fun _ _ _ _ _ => e_sl sl_tupA v_slT (e_var 3 (pv 3)) (p_some (e_int)) (p_none)))) (s_cons (s_fld T.C_System T.h_System_letters (e_var 0 (pv 0)) (e_op op_add_str v_catS (e_bm F.plainAttrs_str F.slot_str_join F.type_str_join mt_join ty_str v_join (e_str) (a_cons (e_callTy (call_list_dK rfl) v_listD rfl T.n_list (by decide +kernel) (a_cons (e_fld T.C_System T.h_System_prices (e_var 0 (pv 0))) (a_nil))) (a_nil))) (e_glob rfl T.c_POINT T.r_POINT (fun μ h H => T.v_POINT μ h H)))) (s_cons (s_fld T.C_System T.h_System_transfer (e_var 0 (pv 0)) (e_dget1 (hu_of hr) (e_var 2 (pv 2)) (e_str) ⟨rfl, rfl, rfl, rfl⟩)) (s_cons (s_fld T.C_System T.h_System_cap (e_var 0 (pv 0)) (e_if (b_din (hu_of hr) (e_str) (e_var 2 (pv 2))) (e_ix ix_tup v_ixT (e_dget (hu_of hr) (e_var 2 (pv 2)) (e_str) (fun _ _ => rfl)) (e_int) (fun _ _ => rfl)) (e_non))) (s_cons (s_fld T.C_System T.h_System_bonus (e_var 0 (pv 0)) (e_if (b_din (hu_of hr) (e_str) (e_var 2 (pv 2))) (e_ix ix_tup v_ixT (e_dget (hu_of hr) (e_var 2 (pv 2)) (e_str) (fun _ _ => rfl)) (e_int) (fun _ _ => rfl)) (e_non))) (s_one (s_if (b_cmp op_gt v_gt (e_callB call_len v_len rfl T.n_len (by decide +kernel) (a_cons (e_call (ok_reached T) rfl (takes_of rfl rfl rfl rfl) (hr.mono (by decide)) rfl T.m_reached T.F_reached.kp (b_reached T) (a_cons (e_var 0 (pv 0)) (a_cons (e_glob rfl T.c_MOST_STATES T.r_MOST_STATES (fun μ h H => T.v_MOST_STATES μ h H)) (a_nil))) (hc := runF_len)) (a_nil))) (e_glob rfl T.c_MOST_STATES T.r_MOST_STATES (fun μ h H => T.v_MOST_STATES μ h H)) rfl) (s_one (s_raise rfl (takes_of rfl rfl rfl rfl) T.T_TooLarge T.i_TooLarge T.t_TooLarge (okx_TooLarge T) (hr.mono (by decide)) (bx_TooLarge T) passL rfl T.m_TooLarge (a_cons (e_glob rfl T.c_MOST_STATES T.r_MOST_STATES (fun μ h H => T.v_MOST_STATES μ h H)) (a_nil)) rfl (by decide) (aLenS (aLen0)))) (s_nil)))))))))))
theorem b_System___init__ (T : Tx P w K cl mg) : Binds K T.d_System___init__ ["self", "rows"] [] := T.F_System___init__.bindsN fun _ _ _ _ _ _ us hl => match us, hl with | [_, _], _ => rfl
def st_System_parse : Stmt := inClass (top 24) 1
def r_System_parse : List PV → Hh → Rs PV := runF 2 2 (sRet (xMakeV 0 3 r_System___init__ (aCons (xCall r_read_rows (aCons (xVar 1) (aNil))) (aNil))))
theorem sc_System_parse : FnScope ["cls", "text"] ["cls", "text"] (defScope st_System_parse) := ⟨rfl, rfl, rfl, by decide +kernel, rfl, by decide +kernel, by decide +kernel⟩
theorem ok_System_parse (T : Tx P w K cl mg) : FnOk P w K mg base (L2.CX P w) 12 T.f_System_parse T.d_System_parse ["cls", "text"] (spOf K cl 2 r_System_parse) :=
  fnOk T.F_System_parse sc_System_parse rfl rfl fun cdv A outer s0 H E hr => s_one (s_ret (e_makeV (pv 0) T.M_System (ok_System___init__ T) (takes_of rfl rfl rfl rfl) (hr.mono (by decide)) (b_System___init__ T) (a_cons (e_call (ok_read_rows T) rfl (takes_of rfl rfl rfl rfl) (hr.mono (by decide)) rfl T.m_read_rows T.F_read_rows.kp (b_read_rows T) (a_cons (e_var 1 (pv 1)) (a_nil)) (hc := runF_len)) (a_nil)) (hc := runF_len)))
theorem b_System_parse (T : Tx P w K cl mg) : Binds K T.d_System_parse ["cls", "text"] [] := T.F_System_parse.bindsN fun _ _ _ _ _ _ us hl => match us, hl with | [_, _], _ => rfl
def st_states : Stmt := top 26
def r_states : List PV → Hh → Rs PV := runF 1 1 (sRet (xCall r_reached (aCons (xVar 0) (aCons (xC (.int 100)) (aNil)))))
theorem sc_states : FnScope ["system"] ["system"] (defScope st_states) := ⟨rfl, rfl, rfl, by decide +kernel, rfl, by decide +kernel, by decide +kernel⟩
theorem ok_states (T : Tx P w K cl mg) : FnOk P w K mg base (L2.CX P w) 4 T.f_states T.d_states ["system"] (spOf K cl 1 r_states) :=
  fnOk T.F_states sc_states rfl rfl fun cdv A outer s0 H E hr => s_one (s_ret (e_call (ok_reached T) rfl (takes_of rfl rfl rfl rfl) (hr.mono (by decide)) rfl T.m_reached T.F_reached.kp (b_reached T) (a_cons (e_var 0 (pv 0)) (a_cons (e_glob rfl T.c_MOST_STATES T.r_MOST_STATES (fun μ h H => T.v_MOST_STATES μ h H)) (a_nil))) (hc := runF_len)))
theorem b_states (T : Tx P w K cl mg) : Binds K T.d_states ["system"] [] := T.F_states.bindsN fun _ _ _ _ _ _ us hl => match us, hl with | [_], _ => rfl
def st_law_feed : Stmt := top 28
def r_law_feed : List PV → Hh → Rs PV := runF 2 5 (sSeq (sSet 2 (xIf (bOf (xOp gLt (xVar 1) (xCall gLen (aCons (xVar 0) (aNil))))) (xOp gIxL (xVar 0) (xVar 1)) (xOp gAdd (xOp gMul (xC (.int 83)) (xVar 1)) (xC (.int 29))))) (sSeq (sSet 3 (xCall gMax2 (aCons (xC (.int 0)) (aCons (xOp gSub (xCall gAbs (aCons (xVar 2) (aNil))) (xOp gPow (xC (.int 10)) (xC (.int 18)))) (aNil))))) (sSeq (sSet 4 (xOp gMod (xOp gAdd (xOp gAdd (xOp gMul (xVar 2) (xC (.int 6364136223846793005))) (xOp gMul (xC (.int 7919)) (xVar 1))) (xC (.int 1442695040888963407))) (xC (.int 2305843009213693951)))) (sRet (xLstI (aCons (xVar 3) (aCons (xVar 4) (aNil))))))))
theorem sc_law_feed : FnScope ["script", "k", "cell", "digits", "state"] ["script", "k"] (defScope st_law_feed) := ⟨rfl, rfl, rfl, by decide +kernel, rfl, by decide +kernel, by decide +kernel⟩
theorem ok_law_feed (T : Tx P w K cl mg) : FnOk P w K mg base (L2.CX P w) 1 T.f_law_feed T.d_law_feed ["script", "k"] (spOf K cl 2 r_law_feed) :=
  fnOk T.F_law_feed sc_law_feed rfl rfl fun cdv A outer s0 H E hr => s_cons (s_set (i := 2) sc_law_feed.nd rfl (Or.inl rfl) (e_if (b_cmp op_lt v_lt (e_var 1 (pv 1)) (e_callB call_len v_len rfl T.n_len (by decide +kernel) (a_cons (e_var 0 (pv 0)) (a_nil))) rfl) (e_ix ix_list v_ixL (e_var 0 (pv 0)) (e_var 1 (pv 1)) (fun _ _ => rfl)) (e_op op_add v_add (e_op op_mul v_mul (e_int) (e_var 1 (pv 1))) (e_int)))) (s_cons (s_set (i := 3) sc_law_feed.nd rfl (Or.inl rfl) (e_callB (call_max2 rfl) v_max2 rfl T.n_max (by decide +kernel) (a_cons (e_int) (a_cons (e_op op_sub v_sub (e_callB call_abs v_abs rfl T.n_abs (by decide +kernel) (a_cons (e_var 2 (pv 2)) (a_nil))) (e_op op_pow v_pow (e_int) (e_int))) (a_nil))))) (s_cons (s_set (i := 4) sc_law_feed.nd rfl (Or.inl rfl) (e_op op_mod v_mod (e_op op_add v_add (e_op op_add v_add (e_op op_mul v_mul (e_var 2 (pv 2)) (e_int)) (e_op op_mul v_mul (e_int) (e_var 1 (pv 1)))) (e_int)) (e_int))) (s_one (s_ret (e_lstI (a_cons (e_var 3 (pv 3)) (a_cons (e_var 4 (pv 4)) (a_nil))))))))
theorem b_law_feed (T : Tx P w K cl mg) : Binds K T.d_law_feed ["script", "k"] [] := T.F_law_feed.bindsN fun _ _ _ _ _ _ us hl => match us, hl with | [_, _], _ => rfl
def st_law_take : Stmt := top 29
def r_law_take : List PV → Hh → Rs PV := runF 2 3 (sSeq (sIf (bOf (xOp gGt (xOp gIxL (xVar 0) (xC (.int 0))) (xC (.int 0)))) (sSeq (sSet 2 (xOp gMod (xOp gIxL (xVar 0) (xC (.int 0))) (xVar 1))) (sSeq (sSetL (xVar 0) (xC (.int 0)) (xOp gDiv (xOp gIxL (xVar 0) (xC (.int 0))) (xVar 1))) (sRet (xVar 2)))) (sNext)) (sSeq (sSetL (xVar 0) (xC (.int 1)) (xOp gMod (xOp gAdd (xOp gMul (xOp gIxL (xVar 0) (xC (.int 1))) (xC (.int 6364136223846793005))) (xC (.int 1442695040888963407))) (xC (.int 2305843009213693951)))) (sRet (xOp gMod (xOp gDiv (xOp gIxL (xVar 0) (xC (.int 1))) (xC (.int 65536))) (xVar 1)))))
theorem sc_law_take : FnScope ["feed", "many", "digit"] ["feed", "many"] (defScope st_law_take) := ⟨rfl, rfl, rfl, by decide +kernel, rfl, by decide +kernel, by decide +kernel⟩
theorem ok_law_take (T : Tx P w K cl mg) : FnOk P w K mg base (L2.CX P w) 1 T.f_law_take T.d_law_take ["feed", "many"] (spOf K cl 2 r_law_take) :=
  fnOk T.F_law_take sc_law_take rfl rfl fun cdv A outer s0 H E hr => s_cons (s_if (b_cmp op_gt v_gt (e_ix ix_list v_ixL (e_var 0 (pv 0)) (e_int) (fun _ _ => rfl)) (e_int) rfl) (s_cons (s_set (i := 2) sc_law_take.nd rfl (Or.inl rfl) (e_op op_mod v_mod (e_ix ix_list v_ixL (e_var 0 (pv 0)) (e_int) (fun _ _ => rfl)) (e_var 1 (pv 1)))) (s_cons (s_setL (e_var 0 (pv 0)) (e_int) (e_op op_fdiv v_div (e_ix ix_list v_ixL (e_var 0 (pv 0)) (e_int) (fun _ _ => rfl)) (e_var 1 (pv 1)))) (s_one (s_ret (e_var 2 (pv 2)))))) (s_nil)) (s_cons (s_setL (e_var 0 (pv 0)) (e_int) (e_op op_mod v_mod (e_op op_add v_add (e_op op_mul v_mul (e_ix ix_list v_ixL (e_var 0 (pv 0)) (e_int) (fun _ _ => rfl)) (e_int)) (e_int)) (e_int))) (s_one (s_ret (e_op op_mod v_mod (e_op op_fdiv v_div (e_ix ix_list v_ixL (e_var 0 (pv 0)) (e_int) (fun _ _ => rfl)) (e_int)) (e_var 1 (pv 1))))))
theorem b_law_take (T : Tx P w K cl mg) : Binds K T.d_law_take ["feed", "many"] [] := T.F_law_take.bindsN fun _ _ _ _ _ _ us hl => match us, hl with | [_, _], _ => rfl
def st_law_pick : Stmt := top 30
def r_law_pick : List PV → Hh → Rs PV := runF 2 2 (sRet (xOp gIxL (xVar 1) (xCall r_law_take (aCons (xVar 0) (aCons (xCall gLen (aCons (xVar 1) (aNil))) (aNil))))))
theorem sc_law_pick : FnScope ["feed", "some"] ["feed", "some"] (defScope st_law_pick) := ⟨rfl, rfl, rfl, by decide +kernel, rfl, by decide +kernel, by decide +kernel⟩
theorem ok_law_pick (T : Tx P w K cl mg) : FnOk P w K mg base (L2.CX P w) 2 T.f_law_pick T.d_law_pick ["feed", "some"] (spOf K cl 2 r_law_pick) :=
  fnOk T.F_law_pick sc_law_pick rfl rfl fun cdv A outer s0 H E hr => s_one (s_ret (e_ix ix_list v_ixL (e_var 1 (pv 1)) (e_call (ok_law_take T) rfl (takes_of rfl rfl rfl rfl) (hr.mono (by decide)) rfl T.m_law_take T.F_law_take.kp (b_law_take T) (a_cons (e_var 0 (pv 0)) (a_cons (e_callB call_len v_len rfl T.n_len (by decide +kernel) (a_cons (e_var 1 (pv 1)) (a_nil))) (a_nil))) (hc := runF_len)) (fun _ _ => rfl)))
theorem b_law_pick (T : Tx P w K cl mg) : Binds K T.d_law_pick ["feed", "some"] [] := T.F_law_pick.bindsN fun _ _ _ _ _ _ us hl => match us, hl with | [_, _], _ => rfl
def st_law_text : Stmt := top 33
def r_law_text : List PV → Hh → Rs PV := runF 1 7 (sSeq (sSet 1 (xLstI (aCons (xOp gCatS (xC (.str "slots ")) (xCall gStrI (aCons (xOp gDGet (xVar 0) (xC (.str "slots"))) (aNil)))) (aNil)))) (sSeq (sIf (bOf (xOp (gEqD true) (xOp gDGet (xVar 0) (xC (.str "peak"))) (xLst (aNil)))) (sDrop (xBM tList gAppend (xVar 1) (aCons (xOp gCatS (xC (.str "peak ")) (xBM tStr gJoin (xC (.str " ")) (aCons (xLc (iLst (xOp gDGet (xVar 0) (xC (.str "peak")))) (.nm 6) (bYes) (xCall gStrI (aCons (xVar 6) (aNil))) [6]) (aNil)))) (aNil)))) (sNext)) (sSeq (sFor (iLst (xOp gDGet (xVar 0) (xC (.str "kinds")))) (.tp [.nm 3, .nm 4, .nm 5]) (sDrop (xBM tList gAppend (xVar 1) (aCons (xOp gCatS (xOp gCatS (xOp gCatS (xOp gCatS (xOp gCatS (xC (.str "ride ")) (xVar 3)) (xC (.str " "))) (xCall gStrI (aCons (xVar 4) (aNil)))) (xC (.str " "))) (xCall gStrI (aCons (xVar 5) (aNil)))) (aNil))))) (sSeq (sIf (bOf (xOp (gIsN true) (xOp gDGet (xVar 0) (xC (.str "transfer"))) (xC .non))) (sDrop (xBM tList gAppend (xVar 1) (aCons (xOp gCatS (xOp gCatS (xOp gCatS (xC (.str "transfer ")) (xCall gStrI (aCons (xOp gIxT (xOp gDGet (xVar 0) (xC (.str "transfer"))) (xC (.int 0))) (aNil)))) (xC (.str " "))) (xCall gStrI (aCons (xOp gIxT (xOp gDGet (xVar 0) (xC (.str "transfer"))) (xC (.int 1))) (aNil)))) (aNil)))) (sNext)) (sSeq (sFor (iLst (xLst (aCons (xC (.str "cap")) (aCons (xC (.str "bonus")) (aNil))))) (.nm 2) (sIf (bOf (xOp (gIsN true) (xOp gDGet (xVar 0) (xVar 2)) (xC .non))) (sDrop (xBM tList gAppend (xVar 1) (aCons (xOp gCatS (xOp gCatS (xVar 2) (xC (.str " "))) (xCall gStrI (aCons (xOp gDGet (xVar 0) (xVar 2)) (aNil)))) (aNil)))) (sNext))) (sRet (xBM tStr gJoin (xC (.str "\n")) (aCons (xVar 1) (aNil)))))))))
theorem sc_law_text : FnScope ["fare", "rows", "word", "letter", "price", "peak_price", "slot"] ["fare"] (defScope st_law_text) := ⟨rfl, rfl, rfl, by decide +kernel, rfl, by decide +kernel, by decide +kernel⟩
theorem ok_law_text (T : Tx P w K cl mg) : FnOk P w K mg base (L2.CX P w) 1 T.f_law_text T.d_law_text ["fare"] (spOf K cl 1 r_law_text) :=
  fnOk T.F_law_text sc_law_text rfl rfl fun cdv A outer s0 H E hr => s_cons (s_set (i := 1) sc_law_text.nd rfl (Or.inl rfl) (e_lstI (a_cons (e_op op_add_str v_catS (e_str) (e_callTy call_str_int v_strI rfl T.n_str (by decide +kernel) (a_cons (e_dget (hu_of hr) (e_var 0 (pv 0)) (e_str) (fun _ _ => rfl)) (a_nil)))) (a_nil)))) (s_cons (s_if (b_cmp (op_neD hr.units) v_neD (e_dget (hu_of hr) (e_var 0 (pv 0)) (e_str) (fun _ _ => rfl)) (e_lst (a_nil)) rfl) (s_one (s_drop (e_bm F.plainAttrs_list F.slot_list_append F.type_list_append mt_append ty_list v_append (e_var 1 (pv 1)) (a_cons (e_op op_add_str v_catS (e_str) (e_bm F.plainAttrs_str F.slot_str_join F.type_str_join mt_join ty_str v_join (e_str) (a_cons (e_lc (own := [("slot", 6)]) rfl sc_law_text.nd (i_lst (e_dget (hu_of hr) (e_var 0 (pv 0)) (e_str) (fun _ _ => rfl))) (blkOk_by (own := [("slot", 6)]) (N := ["fare", "rows", "word", "letter", "price", "peak_price", "slot"]) (sc := (defScope st_law_text)) (by decide +kernel)) rfl (fun _ _ _ _ _ => pg_name (i := 6) sc_law_text.nd rfl (Or.inl rfl)) (fun _ _ _ _ _ => t_yes) (fun _ _ _ _ _ => e_callTy call_str_int v_strI rfl T.n_str (by decide +kernel) (a_cons (e_var 6 (pv 6)) (a_nil)))) (a_nil)))) (a_nil))))) (s_nil)) (s_cons (s_for (passes_of rfl) rfl (i_lst (e_dget (hu_of hr) (e_var 0 (pv 0)) (e_str) (fun _ _ => rfl))) (pg_tup rfl (pgs_cons (pg_name (i := 3) sc_law_text.nd rfl (Or.inl rfl)) (pgs_cons (pg_name (i := 4) sc_law_text.nd rfl (Or.inl rfl)) (pgs_cons (pg_name (i := 5) sc_law_text.nd rfl (Or.inl rfl)) (pgs_nil))))) (s_one (s_drop (e_bm F.plainAttrs_list F.slot_list_append F.type_list_append mt_append ty_list v_append (e_var 1 (pv 1)) (a_cons (e_op op_add_str v_catS (e_op op_add_str v_catS (e_op op_add_str v_catS (e_op op_add_str v_catS (e_op op_add_str v_catS (e_str) (e_var 3 (pv 3))) (e_str)) (e_callTy call_str_int v_strI rfl T.n_str (by decide +kernel) (a_cons (e_var 4 (pv 4)) (a_nil)))) (e_str)) (e_callTy call_str_int v_strI rfl T.n_str (by decide +kernel) (a_cons (e_var 5 (pv 5)) (a_nil)))) (a_nil)))))) (s_cons (s_if (b_cmp op_notN v_notN (e_dget (hu_of hr) (e_var 0 (pv 0)) (e_str) (fun _ _ => rfl)) (e_non) rfl) (s_one (s_drop (e_bm F.plainAttrs_list F.slot_list_append F.type_list_append mt_append ty_list v_append (e_var 1 (pv 1)) (a_cons (e_op op_add_str v_catS (e_op op_add_str v_catS (e_op op_add_str v_catS (e_str) (e_callTy call_str_int v_strI rfl T.n_str (by decide +kernel) (a_cons (e_ix ix_tup v_ixT (e_dget (hu_of hr) (e_var 0 (pv 0)) (e_str) (fun _ _ => rfl)) (e_int) (fun _ _ => rfl)) (a_nil)))) (e_str)) (e_callTy call_str_int v_strI rfl T.n_str (by decide +kernel) (a_cons (e_ix ix_tup v_ixT (e_dget (hu_of hr) (e_var 0 (pv 0)) (e_str) (fun _ _ => rfl)) (e_int) (fun _ _ => rfl)) (a_nil)))) (a_nil))))) (s_nil)) (s_cons (s_for (passes_of rfl) rfl (i_lst (e_lst (a_cons (e_str) (a_cons (e_str) (a_nil))))) (pg_name (i := 2) sc_law_text.nd rfl (Or.inl rfl)) (s_one (s_if (b_cmp op_notN v_notN (e_dget (hu_of hr) (e_var 0 (pv 0)) (e_var 2 (pv 2)) (fun _ _ => rfl)) (e_non) rfl) (s_one (s_drop (e_bm F.plainAttrs_list F.slot_list_append F.type_list_append mt_append ty_list v_append (e_var 1 (pv 1)) (a_cons (e_op op_add_str v_catS (e_op op_add_str v_catS (e_var 2 (pv 2)) (e_str)) (e_callTy call_str_int v_strI rfl T.n_str (by decide +kernel) (a_cons (e_dget (hu_of hr) (e_var 0 (pv 0)) (e_var 2 (pv 2)) (fun _ _ => rfl)) (a_nil)))) (a_nil))))) (s_nil)))) (s_one (s_ret (e_bm F.plainAttrs_str F.slot_str_join F.type_str_join mt_join ty_str v_join (e_str) (a_cons (e_var 1 (pv 1)) (a_nil)))))))))
theorem b_law_text (T : Tx P w K cl mg) : Binds K T.d_law_text ["fare"] [] := T.F_law_text.bindsN fun _ _ _ _ _ _ us hl => match us, hl with | [_], _ => rfl
def st_law_letters : Stmt := top 34
def r_law_letters : List PV → Hh → Rs PV := runF 1 2 (sRet (xOp gCatS (xBM tStr gJoin (xC (.str "")) (aCons (xLc (iLst (xOp gDGet (xVar 0) (xC (.str "kinds")))) (.nm 1) (bYes) (xOp gIxT (xVar 1) (xC (.int 0))) [1]) (aNil))) (xC (.str "."))))
theorem sc_law_letters : FnScope ["fare", "kind"] ["fare"] (defScope st_law_letters) := ⟨rfl, rfl, rfl, by decide +kernel, rfl, by decide +kernel, by decide +kernel⟩
theorem ok_law_letters (T : Tx P w K cl mg) : FnOk P w K mg base (L2.CX P w) 1 T.f_law_letters T.d_law_letters ["fare"] (spOf K cl 1 r_law_letters) :=
  fnOk T.F_law_letters sc_law_letters rfl rfl fun cdv A outer s0 H E hr => s_one (s_ret (e_op op_add_str v_catS (e_bm F.plainAttrs_str F.slot_str_join F.type_str_join mt_join ty_str v_join (e_str) (a_cons (e_lc (own := [("kind", 1)]) rfl sc_law_letters.nd (i_lst (e_dget (hu_of hr) (e_var 0 (pv 0)) (e_str) (fun _ _ => rfl))) (blkOk_by (own := [("kind", 1)]) (N := ["fare", "kind"]) (sc := (defScope st_law_letters)) (by decide +kernel)) rfl (fun _ _ _ _ _ => pg_name (i := 1) sc_law_letters.nd rfl (Or.inl rfl)) (fun _ _ _ _ _ => t_yes) (fun _ _ _ _ _ => e_ix ix_tup v_ixT (e_var 1 (pv 1)) (e_int) (fun _ _ => rfl))) (a_nil))) (e_str)))
theorem b_law_letters (T : Tx P w K cl mg) : Binds K T.d_law_letters ["fare"] [] := T.F_law_letters.bindsN fun _ _ _ _ _ _ us hl => match us, hl with | [_], _ => rfl
def st_law_base : Stmt := top 35
def r_law_base : List PV → Hh → Rs PV := runF 3 7 (sSeq (sSet 3 (xC (.int 0))) (sSeq (sFor (iLst (xOp gDGet (xVar 0) (xC (.str "kinds")))) (.tp [.nm 4, .nm 5, .nm 6]) (sIf (bOf (xOp (gEqD false) (xVar 4) (xVar 1))) (sSet 3 (xIf (bOf (xOp (gIn false) (xVar 2) (xOp gDGet (xVar 0) (xC (.str "peak"))))) (xVar 6) (xVar 5))) (sNext))) (sRet (xVar 3))))
theorem sc_law_base : FnScope ["fare", "letter", "slot", "found", "kind", "price", "peak_price"] ["fare", "letter", "slot"] (defScope st_law_base) := ⟨rfl, rfl, rfl, by decide +kernel, rfl, by decide +kernel, by decide +kernel⟩
theorem ok_law_base (T : Tx P w K cl mg) : FnOk P w K mg base (L2.CX P w) 1 T.f_law_base T.d_law_base ["fare", "letter", "slot"] (spOf K cl 3 r_law_base) :=
  fnOk T.F_law_base sc_law_base rfl rfl fun cdv A outer s0 H E hr => s_cons (s_set (i := 3) sc_law_base.nd rfl (Or.inl rfl) (e_int)) (s_cons (s_for (passes_of rfl) rfl (i_lst (e_dget (hu_of hr) (e_var 0 (pv 0)) (e_str) (fun _ _ => rfl))) (pg_tup rfl (pgs_cons (pg_name (i := 4) sc_law_base.nd rfl (Or.inl rfl)) (pgs_cons (pg_name (i := 5) sc_law_base.nd rfl (Or.inl rfl)) (pgs_cons (pg_name (i := 6) sc_law_base.nd rfl (Or.inl rfl)) (pgs_nil))))) (s_one (s_if (b_cmp (op_eqD hr.units) v_eqD (e_var 4 (pv 4)) (e_var 1 (pv 1)) rfl) (s_one (s_set (i := 3) sc_law_base.nd rfl (Or.inl rfl) (e_if (b_cmp op_in_seq v_in (e_var 2 (pv 2)) (e_dget (hu_of hr) (e_var 0 (pv 0)) (e_str) (fun _ _ => rfl)) rfl) (e_var 6 (pv 6)) (e_var 5 (pv 5))))) (s_nil)))) (s_one (s_ret (e_var 3 (pv 3)))))
theorem b_law_base (T : Tx P w K cl mg) : Binds K T.d_law_base ["fare", "letter", "slot"] [] := T.F_law_base.bindsN fun _ _ _ _ _ _ us hl => match us, hl with | [_, _, _], _ => rfl
def st_law_step : Stmt := top 36
def r_law_step : List PV → Hh → Rs PV := runF 3 8 (sSeq (sAsg (.tp [.nm 4, .nm 5, .nm 6, .nm 7]) (xVar 1)) (sSeq (sIf (bOf (xOp (gEqD false) (xVar 2) (xC (.str ".")))) (sSeq (sSet 4 (xIf (bOf (xOp gLt (xOp gAdd (xVar 4) (xC (.int 1))) (xOp gDGet (xVar 0) (xC (.str "slots"))))) (xOp gAdd (xVar 4) (xC (.int 1))) (xC (.int 0)))) (sRet (xTup (aCons (xTup (aCons (xVar 4) (aCons (xCall gMax2 (aCons (xC (.int 0)) (aCons (xOp gSub (xVar 5) (xC (.int 1))) (aNil)))) (aCons (xIf (bOf (xOp gGt (xVar 4) (xC (.int 0)))) (xVar 6) (xC (.int 0))) (aCons (xVar 7) (aNil)))))) (aCons (xC (.int 0)) (aNil)))))) (sNext)) (sSeq (sSet 3 (xCall r_law_base (aCons (xVar 0) (aCons (xVar 2) (aCons (xVar 4) (aNil)))))) (sSeq (sIf (bOf (xOp gGt (xVar 5) (xC (.int 0)))) (sSet 3 (xCall gMin2 (aCons (xVar 3) (aCons (xOp gIxT (xOp gDGet (xVar 0) (xC (.str "transfer"))) (xC (.int 1))) (aNil))))) (sSeq (sSet 5 (xIf (bOf (xOp (gIsN false) (xOp gDGet (xVar 0) (xC (.str "transfer"))) (xC .non))) (xC (.int 0)) (xOp gAdd (xOp gIxT (xOp gDGet (xVar 0) (xC (.str "transfer"))) (xC (.int 0))) (xC (.int 1))))) (sIf (bOf (xOp (gIsN true) (xOp gDGet (xVar 0) (xC (.str "bonus"))) (xC .non))) (sSeq (sSet 7 (xIf (bOf (xOp gLt (xOp gAdd (xVar 7) (xC (.int 1))) (xOp gDGet (xVar 0) (xC (.str "bonus"))))) (xOp gAdd (xVar 7) (xC (.int 1))) (xC (.int 0)))) (sSet 3 (xIf (bOf (xOp gGt (xVar 7) (xC (.int 0)))) (xVar 3) (xC (.int 0))))) (sNext)))) (sSeq (sIf (bOf (xOp (gIsN true) (xOp gDGet (xVar 0) (xC (.str "cap"))) (xC .non))) (sSeq (sSet 3 (xCall gMin2 (aCons (xVar 3) (aCons (xOp gSub (xOp gDGet (xVar 0) (xC (.str "cap"))) (xVar 6)) (aNil))))) (sSet 6 (xOp gAdd (xVar 6) (xVar 3)))) (sNext)) (sRet (xTup (aCons (xTup (aCons (xVar 4) (aCons (xVar 5) (aCons (xVar 6) (aCons (xVar 7) (aNil)))))) (aCons (xVar 3) (aNil))))))))))
theorem sc_law_step : FnScope ["fare", "state", "letter", "cost", "slot", "left", "paid", "count"] ["fare", "state", "letter"] (defScope st_law_step) := ⟨rfl, rfl, rfl, by decide +kernel, rfl, by decide +kernel, by decide +kernel⟩
theorem ok_law_step (T : Tx P w K cl mg) : FnOk P w K mg base (L2.CX P w) 2 T.f_law_step T.d_law_step ["fare", "state", "letter"] (spOf K cl 3 r_law_step) :=
  fnOk T.F_law_step sc_law_step rfl rfl fun cdv A outer s0 H E hr => s_cons (s_asg (e_var 1 (pv 1)) (pg_tup rfl (pgs_cons (pg_name (i := 4) sc_law_step.nd rfl (Or.inl rfl)) (pgs_cons (pg_name (i := 5) sc_law_step.nd rfl (Or.inl rfl)) (pgs_cons (pg_name (i := 6) sc_law_step.nd rfl (Or.inl rfl)) (pgs_cons (pg_name (i := 7) sc_law_step.nd rfl (Or.inl rfl)) (pgs_nil))))))) (s_cons (s_if (b_cmp (op_eqD hr.units) v_eqD (e_var 2 (pv 2)) (e_str) rfl) (s_cons (s_set (i := 4) sc_law_step.nd rfl (Or.inl rfl) (e_if (b_cmp op_lt v_lt (e_op op_add v_add (e_var 4 (pv 4)) (e_int)) (e_dget (hu_of hr) (e_var 0 (pv 0)) (e_str) (fun _ _ => rfl)) rfl) (e_op op_add v_add (e_var 4 (pv 4)) (e_int)) (e_int))) (s_one (s_ret (e_tup (a_cons (e_tup (a_cons (e_var 4 (pv 4)) (a_cons (e_callB (call_max2 rfl) v_max2 rfl T.n_max (by decide +kernel) (a_cons (e_int) (a_cons (e_op op_sub v_sub (e_var 5 (pv 5)) (e_int)) (a_nil)))) (a_cons (e_if (b_cmp op_gt v_gt (e_var 4 (pv 4)) (e_int) rfl) (e_var 6 (pv 6)) (e_int)) (a_cons (e_var 7 (pv 7)) (a_nil)))))) (a_cons (e_int) (a_nil))))))) (s_nil)) (s_cons (s_set (i := 3) sc_law_step.nd rfl (Or.inl rfl) (e_call (ok_law_base T) rfl (takes_of rfl rfl rfl rfl) (hr.mono (by decide)) rfl T.m_law_base T.F_law_base.kp (b_law_base T) (a_cons (e_var 0 (pv 0)) (a_cons (e_var 2 (pv 2)) (a_cons (e_var 4 (pv 4)) (a_nil)))) (hc := runF_len))) (s_cons (s_if (b_cmp op_gt v_gt (e_var 5 (pv 5)) (e_int) rfl) (s_one (s_set (i := 3) sc_law_step.nd rfl (Or.inl rfl) (e_callB (call_min2 rfl) v_min2 rfl T.n_min (by decide +kernel) (a_cons (e_var 3 (pv 3)) (a_cons (e_ix ix_tup v_ixT (e_dget (hu_of hr) (e_var 0 (pv 0)) (e_str) (fun _ _ => rfl)) (e_int) (fun _ _ => rfl)) (a_nil)))))) (s_cons (s_set (i := 5) sc_law_step.nd rfl (Or.inl rfl) (e_if (b_cmp op_isN v_isN (e_dget (hu_of hr) (e_var 0 (pv 0)) (e_str) (fun _ _ => rfl)) (e_non) rfl) (e_int) (e_op op_add v_add (e_ix ix_tup v_ixT (e_dget (hu_of hr) (e_var 0 (pv 0)) (e_str) (fun _ _ => rfl)) (e_int) (fun _ _ => rfl)) (e_int)))) (s_one (s_if (b_cmp op_notN v_notN (e_dget (hu_of hr) (e_var 0 (pv 0)) (e_str) (fun _ _ => rfl)) (e_non) rfl) (s_cons (s_set (i := 7) sc_law_step.nd rfl (Or.inl rfl) (e_if (b_cmp op_lt v_lt (e_op op_add v_add (e_var 7 (pv 7)) (e_int)) (e_dget (hu_of hr) (e_var 0 (pv 0)) (e_str) (fun _ _ => rfl)) rfl) (e_op op_add v_add (e_var 7 (pv 7)) (e_int)) (e_int))) (s_one (s_set (i := 3) sc_law_step.nd rfl (Or.inl rfl) (e_if (b_cmp op_gt v_gt (e_var 7 (pv 7)) (e_int) rfl) (e_var 3 (pv 3)) (e_int))))) (s_nil))))) (s_cons (s_if (b_cmp op_notN v_notN (e_dget (hu_of hr) (e_var 0 (pv 0)) (e_str) (fun _ _ => rfl)) (e_non) rfl) (s_cons (s_set (i := 3) sc_law_step.nd rfl (Or.inl rfl) (e_callB (call_min2 rfl) v_min2 rfl T.n_min (by decide +kernel) (a_cons (e_var 3 (pv 3)) (a_cons (e_op op_sub v_sub (e_dget (hu_of hr) (e_var 0 (pv 0)) (e_str) (fun _ _ => rfl)) (e_var 6 (pv 6))) (a_nil))))) (s_one (s_set (i := 6) sc_law_step.nd rfl (Or.inl rfl) (e_op op_add v_add (e_var 6 (pv 6)) (e_var 3 (pv 3)))))) (s_nil)) (s_one (s_ret (e_tup (a_cons (e_tup (a_cons (e_var 4 (pv 4)) (a_cons (e_var 5 (pv 5)) (a_cons (e_var 6 (pv 6)) (a_cons (e_var 7 (pv 7)) (a_nil)))))) (a_cons (e_var 3 (pv 3)) (a_nil))))))))))
theorem b_law_step (T : Tx P w K cl mg) : Binds K T.d_law_step ["fare", "state", "letter"] [] := T.F_law_step.bindsN fun _ _ _ _ _ _ us hl => match us, hl with | [_, _, _], _ => rfl
def st_law_states : Stmt := top 37
def r_law_states : List PV → Hh → Rs PV := runF 2 7 (sSeq (sPar3 2 3 4 (aCons (xLstI (aCons (xTup (aCons (xC (.int 0)) (aCons (xC (.int 0)) (aCons (xC (.int 0)) (aCons (xC (.int 0)) (aNil)))))) (aNil))) (aCons (xDisp1 (xTup (aCons (xC (.int 0)) (aCons (xC (.int 0)) (aCons (xC (.int 0)) (aCons (xC (.int 0)) (aNil)))))) (xC (.bl true))) (aCons (xC (.int 0)) (aNil))))) (sSeq (whlL (bAnd (bOf (xOp gLt (xVar 4) (xCall gLen (aCons (xVar 2) (aNil))))) (bOf (xOp gLe (xCall gLen (aCons (xVar 2) (aNil))) (xVar 1)))) (sSeq (sFor (iStrR (xCall r_law_letters (aCons (xVar 0) (aNil)))) (.nm 5) (sSeq (sSet 6 (xOp gIxT (xCall r_law_step (aCons (xVar 0) (aCons (xOp gIxL (xVar 2) (xVar 4)) (aCons (xVar 5) (aNil))))) (xC (.int 0)))) (sIf (bOf (xOp (gNIn true) (xVar 6) (xVar 3))) (sSeq (sNPutR (xVar 3) (xVar 6) (xC (.bl true))) (sDrop (xBM tList gAppend (xVar 2) (aCons (xVar 6) (aNil))))) (sNext)))) (sSet 4 (xOp gAdd (xVar 4) (xC (.int 1))))) 1000000) (sRet (xFrzA (xVar 2)))))
theorem sc_law_states : FnScope ["fare", "most", "found", "known", "at", "letter", "state"] ["fare", "most"] (defScope st_law_states) := ⟨rfl, rfl, rfl, by decide +kernel, rfl, by decide +kernel, by decide +kernel⟩
theorem ok_law_states (T : Tx P w K cl mg) : FnOk P w K mg base (L2.CX P w) 3 T.f_law_states T.d_law_states ["fare", "most"] (spOf K cl 2 r_law_states) :=
  fnOk T.F_law_states sc_law_states rfl rfl fun cdv A outer s0 H E hr => s_cons (s_par3 (i := 2) (j := 3) (l := 4) rfl sc_law_states.nd rfl rfl rfl (by decide) (by decide) (by decide) rfl rfl rfl (a_cons (e_lstI (a_cons (e_tup (a_cons (e_int) (a_cons (e_int) (a_cons (e_int) (a_cons (e_int) (a_nil)))))) (a_nil))) (a_cons (e_disp1 ⟨T.eP, T.ew⟩ (hu16 hr) (e_tup (a_cons (e_int) (a_cons (e_int) (a_cons (e_int) (a_cons (e_int) (a_nil)))))) (e_bl)) (a_cons (e_int) (a_nil))))) (s_cons (s_whl 1000000 (passes_of rfl) (PW.pt (w_and (b_cmp op_lt v_lt (e_var 4 (pv 4)) (e_callB call_len v_len rfl T.n_len (by decide +kernel) (a_cons (e_var 2 (pv 2)) (a_nil))) rfl) (w_and1 (b_cmp op_le v_le (e_callB call_len v_len rfl T.n_len (by decide +kernel) (a_cons (e_var 2 (pv 2)) (a_nil))) (e_var 1 (pv 1)) rfl)))) (s_cons (s_for (passes_of rfl) rfl (i_str (e_call (ok_law_letters T) rfl (takes_of rfl rfl rfl rfl) (hr.mono (by decide)) rfl T.m_law_letters T.F_law_letters.kp (b_law_letters T) (a_cons (e_var 0 (pv 0)) (a_nil)) (hc := runF_len))) (pg_name (i := 5) sc_law_states.nd rfl (Or.inl rfl)) (s_cons (s_set (i := 6) sc_law_states.nd rfl (Or.inl rfl) (e_ix ix_tup v_ixT (e_call (ok_law_step T) rfl (takes_of rfl rfl rfl rfl) (hr.mono (by decide)) rfl T.m_law_step T.F_law_step.kp (b_law_step T) (a_cons (e_var 0 (pv 0)) (a_cons (e_ix ix_list v_ixL (e_var 2 (pv 2)) (e_var 4 (pv 4)) (fun _ _ => rfl)) (a_cons (e_var 5 (pv 5)) (a_nil)))) (hc := runF_len)) (e_int) (fun _ _ => rfl))) (s_one (s_if (b_nnotin ⟨T.eP, T.ew⟩ (hu16 hr) (e_var 6 (pv 6)) (e_var 3 (pv 3))) (s_cons (s_nput ⟨T.eP, T.ew⟩ (hu16 hr) (e_var 3 (pv 3)) (e_var 6 (pv 6)) (e_bl)) (s_one (s_drop (e_bm F.plainAttrs_list F.slot_list_append F.type_list_append mt_append ty_list v_append (e_var 2 (pv 2)) (a_cons (e_var 6 (pv 6)) (a_nil)))))) (s_nil))))) (s_one (s_set (i := 4) sc_law_states.nd rfl (Or.inl rfl) (e_op op_add v_add (e_var 4 (pv 4)) (e_int)))))) (s_one (s_ret (e_frzA (e_var 2 (pv 2))))))
theorem b_law_states (T : Tx P w K cl mg) : Binds K T.d_law_states ["fare", "most"] [] := T.F_law_states.bindsN fun _ _ _ _ _ _ us hl => match us, hl with | [_, _], _ => rfl
def st_law_large : Stmt := top 38
def r_law_large : List PV → Hh → Rs PV := runF 1 3 (sSeq (sSet 1 (xC .non)) (sSeq (sTryF (sDrop (xCMeth 3 r_System_parse (aCons (xVar 0) (aNil)))) 1 "bound" 2 1) (sRet (xVar 1))))
theorem sc_law_large : FnScope ["text", "caught", "error"] ["text"] (defScope st_law_large) := ⟨rfl, rfl, rfl, by decide +kernel, rfl, by decide +kernel, by decide +kernel⟩
theorem ok_law_large (T : Tx P w K cl mg) : FnOk P w K mg base (L2.CX P w) 13 T.f_law_large T.d_law_large ["text"] (spOf K cl 1 r_law_large) :=
  fnOk T.F_law_large sc_law_large rfl rfl fun cdv A outer s0 H E hr => s_cons (s_set (i := 1) sc_law_large.nd rfl (Or.inl rfl) (e_non)) (s_cons (s_tryF (i := 2) (j := 1) rfl rfl sc_law_large.nd rfl rfl (by decide) rfl (.inl rfl) (Or.inl rfl) rfl T.m_TooLarge (takes_of rfl rfl rfl rfl) T.x_TooLarge T.h_TooLarge_bound T.one_TooLarge (fun W pn xe tk1 hp1 => s_one (s_drop (e_cmeth rfl T.m_System T.r_System T.q_System_parse (ok_System_parse T) tk1 (hr.mono (by decide)) (b_System_parse T) (a_cons (e_var 0 (pv 0)) (a_nil)) (hc := runF_len))))) (s_one (s_ret (e_var 1 (pv 1)))))
theorem b_law_large (T : Tx P w K cl mg) : Binds K T.d_law_large ["text"] [] := T.F_law_large.bindsN fun _ _ _ _ _ _ us hl => match us, hl with | [_], _ => rfl
def st_law_big : Stmt := top 39
def r_law_big : List PV → Hh → Rs PV := runF 1 3 (sSeq (sSet 1 (xDisp true [(xC (.str "slots"), xOp gAdd (xC (.int 1)) (xCall r_law_take (aCons (xVar 0) (aCons (xC (.int 8)) (aNil))))), (xC (.str "peak"), xLst (aNil)), (xC (.str "transfer"), xC .non), (xC (.str "cap"), xC .non), (xC (.str "bonus"), xC .non)])) (sSeq (sIf (bOf (xOp (gEqD false) (xCall r_law_take (aCons (xVar 0) (aCons (xC (.int 2)) (aNil)))) (xC (.int 0)))) (sDrop (xBM tDctR gUpd (xVar 1) (aCons (xDisp false [(xC (.str "cap"), xOp gAdd (xC (.int 8)) (xCall r_law_take (aCons (xVar 0) (aCons (xC (.int 13)) (aNil)))))]) aNil))) (sDrop (xBM tDctR gUpd (xVar 1) (aCons (xDisp false [(xC (.str "transfer"), xTup (aCons (xCall r_law_take (aCons (xVar 0) (aCons (xC (.int 5)) (aNil)))) (aCons (xC (.int 1)) (aNil)))), (xC (.str "bonus"), xOp gAdd (xC (.int 2)) (xCall r_law_take (aCons (xVar 0) (aCons (xC (.int 3)) (aNil)))))]) aNil)))) (sSeq (sSet 2 (xCall r_law_pick (aCons (xVar 0) (aCons (xLst (aCons (xC (.int 1)) (aCons (xC (.int 2)) (aCons (xC (.int 3)) (aNil))))) (aNil))))) (sSeq (sDrop (xBM tDctR gUpd (xVar 1) (aCons (xDisp false [(xC (.str "kinds"), xOp gCatL (xLst (aCons (xTup (aCons (xC (.str "a")) (aCons (xVar 2) (aCons (xC (.int 0)) (aNil))))) (aNil))) (xSl gSlL (xLst (aCons (xTup (aCons (xC (.str "b")) (aCons (xOp gAdd (xC (.int 1)) (xCall r_law_take (aCons (xVar 0) (aCons (xC (.int 5)) (aNil))))) (aCons (xC (.int 7)) (aNil))))) (aNil))) (pNone) (pSome (xCall r_law_take (aCons (xVar 0) (aCons (xC (.int 2)) (aNil)))))))]) aNil))) (sRet (xVar 1))))))
theorem sc_law_big : FnScope ["feed", "fare", "price"] ["feed"] (defScope st_law_big) := ⟨rfl, rfl, rfl, by decide +kernel, rfl, by decide +kernel, by decide +kernel⟩
theorem ok_law_big (T : Tx P w K cl mg) : FnOk P w K mg base (L2.CX P w) 3 T.f_law_big T.d_law_big ["feed"] (spOf K cl 1 r_law_big) :=
  fnOk T.F_law_big sc_law_big rfl rfl fun cdv A outer s0 H E hr => s_cons (s_set (i := 1) sc_law_big.nd rfl (Or.inl rfl) (e_disp (d_cons (e_str) (e_op op_add v_add (e_int) (e_call (ok_law_take T) rfl takes0 (hr.mono (by decide)) rfl T.m_law_take T.F_law_take.kp (b_law_take T) (a_cons (e_var 0 (pv 0)) (a_cons (e_int) (a_nil))) (hc := runF_len))) (d_cons (e_str) (e_lst (a_nil)) (d_cons (e_str) (e_non) (d_cons (e_str) (e_non) (d_cons (e_str) (e_non) (d_nil)))))) (List.cons_ne_nil _ _) (Nat.le_of_ble_eq_true rfl))) (s_cons (s_if (b_cmp (op_eqD hr.units) v_eqD (e_call (ok_law_take T) rfl (takes_of rfl rfl rfl rfl) (hr.mono (by decide)) rfl T.m_law_take T.F_law_take.kp (b_law_take T) (a_cons (e_var 0 (pv 0)) (a_cons (e_int) (a_nil))) (hc := runF_len)) (e_int) rfl) (s_one (s_drop (e_bm PySem.F.plainAttrs_dict PySem.F.slot_dict_update PySem.F.type_dict_update mt_upd ty_dct v_upd (e_var 1 (pv 1)) (a_cons (e_disp (d_cons (e_str) (e_op op_add v_add (e_int) (e_call (ok_law_take T) rfl takes0 (hr.mono (by decide)) rfl T.m_law_take T.F_law_take.kp (b_law_take T) (a_cons (e_var 0 (pv 0)) (a_cons (e_int) (a_nil))) (hc := runF_len))) (d_nil)) (List.cons_ne_nil _ _) (Nat.le_of_ble_eq_true rfl)) a_nil)))) (s_one (s_drop (e_bm PySem.F.plainAttrs_dict PySem.F.slot_dict_update PySem.F.type_dict_update mt_upd ty_dct v_upd (e_var 1 (pv 1)) (a_cons (e_disp (d_cons (e_str) (e_tup (a_cons (e_call (ok_law_take T) rfl takes0 (hr.mono (by decide)) rfl T.m_law_take T.F_law_take.kp (b_law_take T) (a_cons (e_var 0 (pv 0)) (a_cons (e_int) (a_nil))) (hc := runF_len)) (a_cons (e_int) (a_nil)))) (d_cons (e_str) (e_op op_add v_add (e_int) (e_call (ok_law_take T) rfl takes0 (hr.mono (by decide)) rfl T.m_law_take T.F_law_take.kp (b_law_take T) (a_cons (e_var 0 (pv 0)) (a_cons (e_int) (a_nil))) (hc := runF_len))) (d_nil))) (List.cons_ne_nil _ _) (Nat.le_of_ble_eq_true rfl)) a_nil))))) (s_cons (s_set (i := 2) sc_law_big.nd rfl (Or.inl rfl) (e_call (ok_law_pick T) rfl (takes_of rfl rfl rfl rfl) (hr.mono (by decide)) rfl T.m_law_pick T.F_law_pick.kp (b_law_pick T) (a_cons (e_var 0 (pv 0)) (a_cons (e_lst (a_cons (e_int) (a_cons (e_int) (a_cons (e_int) (a_nil))))) (a_nil))) (hc := runF_len))) (s_cons (s_drop (e_bm PySem.F.plainAttrs_dict PySem.F.slot_dict_update PySem.F.type_dict_update mt_upd ty_dct v_upd (e_var 1 (pv 1)) (a_cons (e_disp (d_cons (e_str) (e_op op_cat v_catL (e_lst (a_cons (e_tup (a_cons (e_str) (a_cons (e_var 2 (pv 2)) (a_cons (e_int) (a_nil))))) (a_nil))) (e_sl sl_list v_slL (e_lst (a_cons (e_tup (a_cons (e_str) (a_cons (e_op op_add v_add (e_int) (e_call (ok_law_take T) rfl takes0 (hr.mono (by decide)) rfl T.m_law_take T.F_law_take.kp (b_law_take T) (a_cons (e_var 0 (pv 0)) (a_cons (e_int) (a_nil))) (hc := runF_len))) (a_cons (e_int) (a_nil))))) (a_nil))) (p_none) (p_some (e_call (ok_law_take T) rfl takes0 (hr.mono (by decide)) rfl T.m_law_take T.F_law_take.kp (b_law_take T) (a_cons (e_var 0 (pv 0)) (a_cons (e_int) (a_nil))) (hc := runF_len))))) (d_nil)) (List.cons_ne_nil _ _) (Nat.le_of_ble_eq_true rfl)) a_nil))) (s_one (s_ret (e_var 1 (pv 1)))))))
theorem b_law_big (T : Tx P w K cl mg) : Binds K T.d_law_big ["feed"] [] := T.F_law_big.bindsN fun _ _ _ _ _ _ us hl => match us, hl with | [_], _ => rfl
def st_law : Stmt := top 40
def r_law : List PV → Hh → Rs PV := runF 1 6 (sSeq (sFor (iRange1 (aCons (xCall gMax2 (aCons (xC (.int 2)) (aCons (xCall gMin2 (aCons (xC (.int 3)) (aCons (xCall gLen (aCons (xVar 0) (aNil))) (aNil)))) (aNil)))) (aNil))) (.nm 1) (sSeq (sSet 2 (xCall r_law_feed (aCons (xVar 0) (aCons (xVar 1) (aNil))))) (sSeq (sFor (iRange1 (aCons (xC (.int 5)) (aNil))) (.nm 3) (sSeq (sSet 4 (xCall r_law_big (aCons (xVar 2) (aNil)))) (sSeq (sSet 5 (xCall gLen (aCons (xCall r_law_states (aCons (xVar 4) (aCons (xC (.int 100)) (aNil)))) (aNil)))) (sSeq (sIf (bOf (xOp (gEqD true) (xCall r_law_large (aCons (xCall r_law_text (aCons (xVar 4) (aNil))) (aNil))) (xIf (bOf (xOp gGt (xVar 5) (xC (.int 100)))) (xC (.int 100)) (xC .non)))) (sRet (xC (.bl false))) (sNext)) (sIf (bAnd (bOf (xOp gLe (xVar 5) (xC (.int 100)))) (bOf (xOp (gEqD true) (xCall gLen (aCons (xCall r_states (aCons (xCMeth 3 r_System_parse (aCons (xCall r_law_text (aCons (xVar 4) (aNil))) (aNil))) (aNil))) (aNil))) (xVar 5)))) (sRet (xC (.bl false))) (sNext)))))) (sSeq (sIf (bOf (xOp (gIsN true) (xCall r_law_large (aCons (xC (.str "slots 5\nride a 1 1\ncap 19")) (aNil))) (xC .non))) (sRet (xC (.bl false))) (sNext)) (sIf (bOf (xOp (gEqD true) (xCall r_law_large (aCons (xC (.str "slots 5\nride a 1 1\ncap 20")) (aNil))) (xC (.int 100)))) (sRet (xC (.bl false))) (sNext)))))) (sRet (xC (.bl true))))
theorem sc_law : FnScope ["script", "k", "feed", "turn", "fare", "many"] ["script"] (defScope st_law) := ⟨rfl, rfl, rfl, by decide +kernel, rfl, by decide +kernel, by decide +kernel⟩
theorem ok_law (T : Tx P w K cl mg) : FnOk P w K mg base (L2.CX P w) 14 T.f_law T.d_law ["script"] (spOf K cl 1 r_law) :=
  fnOk T.F_law sc_law rfl rfl fun cdv A outer s0 H E hr => s_cons (s_for (passes_of rfl) rfl (i_range1 rfl T.n_range (a_cons (e_callB (call_max2 rfl) v_max2 rfl T.n_max (by decide +kernel) (a_cons (e_int) (a_cons (e_callB (call_min2 rfl) v_min2 rfl T.n_min (by decide +kernel) (a_cons (e_int) (a_cons (e_callB call_len v_len rfl T.n_len (by decide +kernel) (a_cons (e_var 0 (pv 0)) (a_nil))) (a_nil)))) (a_nil)))) (a_nil))) (pg_name (i := 1) sc_law.nd rfl (Or.inl rfl)) (s_cons (s_set (i := 2) sc_law.nd rfl (Or.inl rfl) (e_call (ok_law_feed T) rfl (takes_of rfl rfl rfl rfl) (hr.mono (by decide)) rfl T.m_law_feed T.F_law_feed.kp (b_law_feed T) (a_cons (e_var 0 (pv 0)) (a_cons (e_var 1 (pv 1)) (a_nil))) (hc := runF_len))) (s_cons (s_for (passes_of rfl) rfl (i_range1 rfl T.n_range (a_cons (e_int) (a_nil))) (pg_name (i := 3) sc_law.nd rfl (Or.inl rfl)) (s_cons (s_set (i := 4) sc_law.nd rfl (Or.inl rfl) (e_call (ok_law_big T) rfl (takes_of rfl rfl rfl rfl) (hr.mono (by decide)) rfl T.m_law_big T.F_law_big.kp (b_law_big T) (a_cons (e_var 2 (pv 2)) (a_nil)) (hc := runF_len))) (s_cons (s_set (i := 5) sc_law.nd rfl (Or.inl rfl) (e_callB call_len v_len rfl T.n_len (by decide +kernel) (a_cons (e_call (ok_law_states T) rfl (takes_of rfl rfl rfl rfl) (hr.mono (by decide)) rfl T.m_law_states T.F_law_states.kp (b_law_states T) (a_cons (e_var 4 (pv 4)) (a_cons (e_int) (a_nil))) (hc := runF_len)) (a_nil)))) (s_cons (s_if (b_cmp (op_neD hr.units) v_neD (e_call (ok_law_large T) rfl (takes_of rfl rfl rfl rfl) (hr.mono (by decide)) rfl T.m_law_large T.F_law_large.kp (b_law_large T) (a_cons (e_call (ok_law_text T) rfl (takes_of rfl rfl rfl rfl) (hr.mono (by decide)) rfl T.m_law_text T.F_law_text.kp (b_law_text T) (a_cons (e_var 4 (pv 4)) (a_nil)) (hc := runF_len)) (a_nil)) (hc := runF_len)) (e_if (b_cmp op_gt v_gt (e_var 5 (pv 5)) (e_int) rfl) (e_int) (e_non)) rfl) (s_one (s_ret (e_bl))) (s_nil)) (s_one (s_if (PW.pt (w_and (b_cmp op_le v_le (e_var 5 (pv 5)) (e_int) rfl) (w_and1 (b_cmp (op_neD hr.units) v_neD (e_callB call_len v_len rfl T.n_len (by decide +kernel) (a_cons (e_call (ok_states T) rfl (takes_of rfl rfl rfl rfl) (hr.mono (by decide)) rfl T.m_states T.F_states.kp (b_states T) (a_cons (e_cmeth rfl T.m_System T.r_System T.q_System_parse (ok_System_parse T) (takes_of rfl rfl rfl rfl) (hr.mono (by decide)) (b_System_parse T) (a_cons (e_call (ok_law_text T) rfl (takes_of rfl rfl rfl rfl) (hr.mono (by decide)) rfl T.m_law_text T.F_law_text.kp (b_law_text T) (a_cons (e_var 4 (pv 4)) (a_nil)) (hc := runF_len)) (a_nil)) (hc := runF_len)) (a_nil)) (hc := runF_len)) (a_nil))) (e_var 5 (pv 5)) rfl)))) (s_one (s_ret (e_bl))) (s_nil))))))) (s_cons (s_if (b_cmp op_notN v_notN (e_call (ok_law_large T) rfl (takes_of rfl rfl rfl rfl) (hr.mono (by decide)) rfl T.m_law_large T.F_law_large.kp (b_law_large T) (a_cons (e_str) (a_nil)) (hc := runF_len)) (e_non) rfl) (s_one (s_ret (e_bl))) (s_nil)) (s_one (s_if (b_cmp (op_neD hr.units) v_neD (e_call (ok_law_large T) rfl (takes_of rfl rfl rfl rfl) (hr.mono (by decide)) rfl T.m_law_large T.F_law_large.kp (b_law_large T) (a_cons (e_str) (a_nil)) (hc := runF_len)) (e_int) rfl) (s_one (s_ret (e_bl))) (s_nil))))))) (s_one (s_ret (e_bl)))
theorem b_law (T : Tx P w K cl mg) : Binds K T.d_law ["script"] [] := T.F_law.bindsN fun _ _ _ _ _ _ us hl => match us, hl with | [_], _ => rfl
end
end TR

set_option Elab.async false
set_option linter.all false
set_option maxRecDepth 100000
set_option maxHeartbeats 4000000
namespace TR
open PySem PySem.Spec L2

/-! ### runs, worked out -/
@[simp] theorem Rs.bind_ok {α β : Type} (a : α) (h : Hh) (f : α → Hh → Rs β) : (Rs.ok a h).bind f = f a h := rfl
@[simp] theorem Rs.bind_exc {α β : Type} (c : Nat) (fs : List (Str × PV)) (h : Hh) (f : α → Hh → Rs β) : (Rs.exc c fs h : Rs α).bind f = .exc c fs h := rfl
@[simp] theorem Rs.toS_ok {α : Type} (a : α) (h : Hh) (st : Sl) (k : α → Hh → SR) : (Rs.ok a h).toS st k = k a h := rfl
@[simp] theorem Rs.toS_exc {α : Type} (c : Nat) (fs : List (Str × PV)) (h : Hh) (st : Sl) (k : α → Hh → SR) : (Rs.exc c fs h : Rs α).toS st k = .exc c fs st h := rfl
theorem ite_toS {α : Type} (c : Prop) [Decidable c] (a b : Rs α) (st : Sl) (k : α → Hh → SR) : (if c then a else b).toS st k = if c then a.toS st k else b.toS st k := by split <;> rfl
theorem ite_bind {α β : Type} (c : Prop) [Decidable c] (a b : Rs α) (f : α → Hh → Rs β) : (if c then a else b).bind f = if c then a.bind f else b.bind f := by split <;> rfl

theorem asg_nm (i : Nat) (v : PV) (st : Sl) : asg (.nm i) v st = some (st.set i (some v)) := by simp only [asg]
theorem asg_2 (i j : Nat) (v u : PV) (st : Sl) : asg (.tp [.nm i, .nm j]) (.tup [v, u]) st = some ((st.set i (some v)).set j (some u)) := by simp only [asg, asgs]
theorem asg_3 (i j k : Nat) (v u x : PV) (st : Sl) : asg (.tp [.nm i, .nm j, .nm k]) (.tup [v, u, x]) st = some (((st.set i (some v)).set j (some u)).set k (some x)) := by simp only [asg, asgs]
theorem asg_4 (i j k l : Nat) (v u x y : PV) (st : Sl) : asg (.tp [.nm i, .nm j, .nm k, .nm l]) (.tup [v, u, x, y]) st = some ((((st.set i (some v)).set j (some u)).set k (some x)).set l (some y)) := by simp only [asg, asgs]

theorem eqd_int (neg : Bool) (i j : Int) (h : Hh) : gEqD neg (.int i) (.int j) h = .ok (.bl (if neg then !decide (i = j) else decide (i = j))) h := by
  have e : PyData.eqv (.int i) (.int j) = decide (i = j) := rfl
  show (if SeqAt.shaped (.int i) = true ∧ SeqAt.shaped (.int j) = true then Rs.ok (PV.bl (if neg then !PyData.eqv (.int i) (.int j) else PyData.eqv (.int i) (.int j))) h else .bad) = _
  rw [if_pos ⟨rfl, rfl⟩, e]
theorem eqd_str (neg : Bool) (i j : Str) (h : Hh) (hi : PyData.strOk i = true) (hj : PyData.strOk j = true) : gEqD neg (.str i) (.str j) h = .ok (.bl (if neg then !decide (i = j) else decide (i = j))) h := by
  have e : PyData.eqv (.str i) (.str j) = decide (i = j) := rfl
  show (if SeqAt.shaped (.str i) = true ∧ SeqAt.shaped (.str j) = true then Rs.ok (PV.bl (if neg then !PyData.eqv (.str i) (.str j) else PyData.eqv (.str i) (.str j))) h else .bad) = _
  have k : ∀ x : Str, PyData.strOk x = true → SeqAt.shaped (.str x) = true := fun x hx => by
    show (PyData.strOk x && decide (PyData.depth (.str x) ≤ 64)) = true
    rw [hx]
    rfl
  rw [if_pos ⟨k i hi, k j hj⟩, e]

/-! ### systems -/
structure Sys where
  rows : List PV
  slots : Int
  peak : List Int
  prices : List (Nat × Int × Int)
  transfer : Option (Int × Int)
  cap : Option Int
  bonus : Option Int
def oI : Option Int → PV
  | none => .non
  | some i => .int i
def oT : Option (Int × Int) → PV
  | none => .non
  | some (i, j) => .tup [.int i, .int j]
def ch (c : Nat) : Str := ⟨#[c]⟩
def pD (l : List (Nat × Int × Int)) : List (PV × PV) := l.map fun q => (.str (ch q.1), .tup [.int q.2.1, .int q.2.2])
def Sys.lets (s : Sys) : List Nat := s.prices.map (·.1) ++ [46]
def Sys.fs (s : Sys) : List (Str × PV) := [("rows", .tup s.rows), ("slots", .int s.slots), ("peak_slots", .tup (s.peak.map .int)), ("prices", .dct (pD s.prices)), ("letters", .str ⟨s.lets.toArray⟩), ("transfer", oT s.transfer), ("cap", oI s.cap), ("bonus", oI s.bonus)]
theorem fs_slots (s : Sys) : s.fs.lookup ("slots" : Str) = some (.int s.slots) := rfl
theorem fs_rows (s : Sys) : s.fs.lookup ("rows" : Str) = some (.tup s.rows) := rfl
theorem fs_peak (s : Sys) : s.fs.lookup ("peak_slots" : Str) = some (.tup (s.peak.map .int)) := rfl
theorem fs_prices (s : Sys) : s.fs.lookup ("prices" : Str) = some (.dct (pD s.prices)) := rfl
theorem fs_letters (s : Sys) : s.fs.lookup ("letters" : Str) = some (.str ⟨s.lets.toArray⟩) := rfl
theorem fs_transfer (s : Sys) : s.fs.lookup ("transfer" : Str) = some (oT s.transfer) := rfl
theorem fs_cap (s : Sys) : s.fs.lookup ("cap" : Str) = some (oI s.cap) := rfl
theorem fs_bonus (s : Sys) : s.fs.lookup ("bonus" : Str) = some (oI s.bonus) := rfl
/-- the object at i is this system -/
def IsSys (h : Hh) (i : Nat) (s : Sys) : Prop := h[i]? = some (.ins 3 s.fs)
theorem IsSys.at_ {h : Hh} {i : Nat} {s : Sys} (e : IsSys h i s) : insAt 3 (.ref i) h = some (i, s.fs) := by
  unfold insAt
  dsimp only
  rw [e]
  rfl
/-- a card's state -/
structure Cd where
  slot : Int
  left : Int
  paid : Int
  count : Int
  deriving DecidableEq
def Cd.pv (c : Cd) : PV := .tup [.int c.slot, .int c.left, .int c.paid, .int c.count]

def mx (i j : Int) : Int := if j > i then j else i
def mn (i j : Int) : Int := if j < i then j else i
def later (s : Sys) (c : Cd) : Cd := if c.slot = s.slots - 1 then ⟨0, mx (c.left - 1) 0, 0, c.count⟩ else ⟨c.slot + 1, mx (c.left - 1) 0, c.paid, c.count⟩
def full (s : Sys) (count cost : Int) : Int × Int := match s.bonus with
  | none => (count, cost)
  | some b => if count + 1 = b then (0, 0) else (count + 1, cost)
def tPrice (s : Sys) : Int := match s.transfer with
  | none => 0
  | some q => q.2
def tLeft (s : Sys) : Int := match s.transfer with
  | none => 0
  | some q => q.1 + 1
def capped (s : Sys) (paid cost : Int) : Int × Int := match s.cap with
  | none => (paid, cost)
  | some k => (paid + mn cost (k - paid), mn cost (k - paid))
def ride (s : Sys) (c : Cd) (q : Int × Int) : Cd × Int :=
  let b := if s.peak.contains c.slot then q.2 else q.1
  if 0 < c.left then
    let z := capped s c.paid (mn b (tPrice s))
    (⟨c.slot, c.left, z.1, c.count⟩, z.2)
  else
    let f := full s c.count b
    let z := capped s c.paid f.2
    (⟨c.slot, tLeft s, z.1, f.1⟩, z.2)
/-- a letter: the state behind it, what it costs -/
def step (s : Sys) (c : Cd) (x : Nat) : Option (Cd × Int) := if x = 46 then some (later s c, 0) else (s.prices.lookup x).map (ride s c)

section
variable {h : Hh} {i : Nat} {s : Sys}
theorem run_later (e : IsSys h i s) (c : Cd) : r_System__later [.ref i, c.pv] h = .ok (later s c).pv h := by
  have ea := e.at_
  unfold r_System__later Cd.pv later
  by_cases hc : c.slot = s.slots - 1
  · simp only [runF, startS, sSeq, sSet, sRet, sRetN, sIf, sDrop, sAsg, sNext, sNever, sAug, asg_nm, asg_2, asg_3, asg_4, xVar, xC, aNil, aCons, xOp, xCall, xMt, xTup, xLst, xIf, xAnd, xOr, xNot, bOf, bTru, bAnd, bOr, bNot, bYes, gI2, gAdd, gSub, gLt, gLe, gGt, gGe, gIxT, gLen, gMin2, gMax2, gIsN, Rs.bind_ok, Rs.bind_exc, Rs.toS_ok, Rs.toS_exc, List.map_cons, List.map_nil, List.length_cons, List.length_nil, List.replicate, List.cons_append, List.nil_append, List.getElem?_cons_zero, List.getElem?_cons_succ, List.getElem?_nil, List.set_cons_zero, List.set_cons_succ, Nat.reduceAdd, Nat.reduceSub, Nat.reduceEqDiff, if_true, if_false, if_pos rfl, reduceIte, decide_true, decide_false, Bool.not_true, Bool.not_false, sizeLine_eq, Nat.reduceLeDiff, eqd_int, xFld, Bool.true_eq_false, Bool.false_eq_true, ite_toS, ite_bind, ea, fs_slots, hc, mx]
  · simp only [runF, startS, sSeq, sSet, sRet, sRetN, sIf, sDrop, sAsg, sNext, sNever, sAug, asg_nm, asg_2, asg_3, asg_4, xVar, xC, aNil, aCons, xOp, xCall, xMt, xTup, xLst, xIf, xAnd, xOr, xNot, bOf, bTru, bAnd, bOr, bNot, bYes, gI2, gAdd, gSub, gLt, gLe, gGt, gGe, gIxT, gLen, gMin2, gMax2, gIsN, Rs.bind_ok, Rs.bind_exc, Rs.toS_ok, Rs.toS_exc, List.map_cons, List.map_nil, List.length_cons, List.length_nil, List.replicate, List.cons_append, List.nil_append, List.getElem?_cons_zero, List.getElem?_cons_succ, List.getElem?_nil, List.set_cons_zero, List.set_cons_succ, Nat.reduceAdd, Nat.reduceSub, Nat.reduceEqDiff, if_true, if_false, if_pos rfl, reduceIte, decide_true, decide_false, Bool.not_true, Bool.not_false, sizeLine_eq, Nat.reduceLeDiff, eqd_int, xFld, Bool.true_eq_false, Bool.false_eq_true, ite_toS, ite_bind, ea, fs_slots, hc, mx]
theorem run_full (e : IsSys h i s) (n k : Int) : r_System__full_ride [.ref i, .int n, .int k] h = .ok (.tup [.int (full s n k).1, .int (full s n k).2]) h := by
  have ea := e.at_
  unfold r_System__full_ride full
  cases hb : s.bonus with
  | none => simp only [runF, startS, sSeq, sSet, sRet, sRetN, sIf, sDrop, sAsg, sNext, sNever, sAug, asg_nm, asg_2, asg_3, asg_4, xVar, xC, aNil, aCons, xOp, xCall, xMt, xTup, xLst, xIf, xAnd, xOr, xNot, bOf, bTru, bAnd, bOr, bNot, bYes, gI2, gAdd, gSub, gLt, gLe, gGt, gGe, gIxT, gLen, gMin2, gMax2, gIsN, Rs.bind_ok, Rs.bind_exc, Rs.toS_ok, Rs.toS_exc, List.map_cons, List.map_nil, List.length_cons, List.length_nil, List.replicate, List.cons_append, List.nil_append, List.getElem?_cons_zero, List.getElem?_cons_succ, List.getElem?_nil, List.set_cons_zero, List.set_cons_succ, Nat.reduceAdd, Nat.reduceSub, Nat.reduceEqDiff, if_true, if_false, if_pos rfl, reduceIte, decide_true, decide_false, Bool.not_true, Bool.not_false, sizeLine_eq, Nat.reduceLeDiff, eqd_int, xFld, Bool.true_eq_false, Bool.false_eq_true, ite_toS, ite_bind, ea, fs_bonus, hb, oI]
  | some b =>
    by_cases hc : n + 1 = b
    · simp only [runF, startS, sSeq, sSet, sRet, sRetN, sIf, sDrop, sAsg, sNext, sNever, sAug, asg_nm, asg_2, asg_3, asg_4, xVar, xC, aNil, aCons, xOp, xCall, xMt, xTup, xLst, xIf, xAnd, xOr, xNot, bOf, bTru, bAnd, bOr, bNot, bYes, gI2, gAdd, gSub, gLt, gLe, gGt, gGe, gIxT, gLen, gMin2, gMax2, gIsN, Rs.bind_ok, Rs.bind_exc, Rs.toS_ok, Rs.toS_exc, List.map_cons, List.map_nil, List.length_cons, List.length_nil, List.replicate, List.cons_append, List.nil_append, List.getElem?_cons_zero, List.getElem?_cons_succ, List.getElem?_nil, List.set_cons_zero, List.set_cons_succ, Nat.reduceAdd, Nat.reduceSub, Nat.reduceEqDiff, if_true, if_false, if_pos rfl, reduceIte, decide_true, decide_false, Bool.not_true, Bool.not_false, sizeLine_eq, Nat.reduceLeDiff, eqd_int, xFld, Bool.true_eq_false, Bool.false_eq_true, ite_toS, ite_bind, ea, fs_bonus, hb, oI, hc]
    · simp only [runF, startS, sSeq, sSet, sRet, sRetN, sIf, sDrop, sAsg, sNext, sNever, sAug, asg_nm, asg_2, asg_3, asg_4, xVar, xC, aNil, aCons, xOp, xCall, xMt, xTup, xLst, xIf, xAnd, xOr, xNot, bOf, bTru, bAnd, bOr, bNot, bYes, gI2, gAdd, gSub, gLt, gLe, gGt, gGe, gIxT, gLen, gMin2, gMax2, gIsN, Rs.bind_ok, Rs.bind_exc, Rs.toS_ok, Rs.toS_exc, List.map_cons, List.map_nil, List.length_cons, List.length_nil, List.replicate, List.cons_append, List.nil_append, List.getElem?_cons_zero, List.getElem?_cons_succ, List.getElem?_nil, List.set_cons_zero, List.set_cons_succ, Nat.reduceAdd, Nat.reduceSub, Nat.reduceEqDiff, if_true, if_false, if_pos rfl, reduceIte, decide_true, decide_false, Bool.not_true, Bool.not_false, sizeLine_eq, Nat.reduceLeDiff, eqd_int, xFld, Bool.true_eq_false, Bool.false_eq_true, ite_toS, ite_bind, ea, fs_bonus, hb, oI, hc]
theorem dlook_pD (l : List (Nat × Int × Int)) (x : Nat) : dLook (pD l) (.inr (ch x)) = (l.lookup x).map fun q => .tup [.int q.1, .int q.2] := by
  induction l with
  | nil => rfl
  | cons q r ih =>
    obtain ⟨y, p⟩ := q
    show (if keyV (.str (ch y)) = some (.inr (ch x)) then some (PV.tup [.int p.1, .int p.2]) else dLook (pD r) (.inr (ch x))) = _
    by_cases hx : x = y
    · subst hx
      have hy : keyV (.str (ch x)) = some (.inr (ch x)) := rfl
      rw [if_pos hy, List.lookup_cons_self]
      rfl
    · have hn : ¬ keyV (.str (ch y)) = some (.inr (ch x)) := fun z => by
        have z1 : (Sum.inr (ch y) : Key) = .inr (ch x) := Option.some.inj z
        have z2 : ch y = ch x := Sum.inr.inj z1
        have z3 : (#[y] : Array Nat) = #[x] := congrArg Str.cps z2
        exact hx (by simpa using z3.symm)
      rw [if_neg hn, ih, List.lookup_cons, show (x == y) = false from beq_false_of_ne hx]
theorem in_ints (l : List Int) (k : Int) : gIn false (.int k) (.tup (l.map .int)) h = .ok (.bl (l.contains k)) h := by
  have hf : (l.map PV.int).all flatP = true := List.all_eq_true.mpr fun v hv => by
    obtain ⟨j, _, rfl⟩ := List.mem_map.mp hv
    rfl
  have hi : inP (.int k) (l.map .int) = l.contains k := by
    induction l with
    | nil => rfl
    | cons j r ih =>
      show (eqP (.int j) (.int k) || inP (.int k) (r.map .int)) = _
      rw [ih (List.all_eq_true.mpr fun v hv => by
        obtain ⟨j, _, rfl⟩ := List.mem_map.mp hv
        rfl), List.contains_cons]
      show (j == k || _) = _
      rw [Bool.beq_comm]
  show (if flatP (.int k) = true ∧ (l.map PV.int).all flatP = true then Rs.ok (PV.bl (inP (.int k) (l.map .int))) h else .bad) = _
  rw [if_pos ⟨rfl, hf⟩, hi]
theorem dotOk : PyData.strOk ("." : Str) = true := by decide +kernel
theorem ch_dot (x : Nat) : (ch x = ("." : Str)) ↔ x = 46 := by
  constructor
  · intro e
    have z3 : (#[x] : Array Nat) = #[46] := congrArg Str.cps e
    simpa using z3
  · rintro rfl
    rfl
theorem gI0 (a b : PV) : atI [a, b] 0 = some a := rfl
theorem gI1 (a b : PV) : atI [a, b] 1 = some b := rfl
theorem no_meth (s : Sys) : ∀ m ∈ (["_later", "_full_ride", "step", "costs", "cost"] : List Str), (s.fs.lookup m).isNone = true := by
  intro m hm
  have h1 : ∀ m ∈ (["_later", "_full_ride", "step", "costs", "cost"] : List Str), ∀ f ∈ (["rows", "slots", "peak_slots", "prices", "letters", "transfer", "cap", "bonus"] : List Str), (m == f) = false := by decide +kernel
  have h2 := h1 m hm
  unfold Sys.fs
  simp only [List.lookup_cons, List.lookup_nil, h2 _ (by simp : ("rows" : Str) ∈ _), h2 "slots" (by simp), h2 "peak_slots" (by simp), h2 "prices" (by simp), h2 "letters" (by simp), h2 "transfer" (by simp), h2 "cap" (by simp), h2 "bonus" (by simp)]
  rfl
theorem no_later (s : Sys) : s.fs.lookup ("_later" : Str) = none := Option.isNone_iff_eq_none.mp (no_meth s _ (by simp))
theorem no_full (s : Sys) : s.fs.lookup ("_full_ride" : Str) = none := Option.isNone_iff_eq_none.mp (no_meth s _ (by simp))
theorem no_step (s : Sys) : s.fs.lookup ("step" : Str) = none := Option.isNone_iff_eq_none.mp (no_meth s _ (by simp))
theorem no_costs (s : Sys) : s.fs.lookup ("costs" : Str) = none := Option.isNone_iff_eq_none.mp (no_meth s _ (by simp))
theorem no_cost (s : Sys) : s.fs.lookup ("cost" : Str) = none := Option.isNone_iff_eq_none.mp (no_meth s _ (by simp))
theorem run_dot (e : IsSys h i s) (c : Cd) : r_System_step [.ref i, c.pv, .str (ch 46)] h = .ok (.tup [(later s c).pv, .int 0]) h := by
  have ea := e.at_
  have rl := run_later e c
  have hd : ch 46 = ("." : Str) := rfl
  unfold r_System_step
  simp only [runF, startS, sSeq, sSet, sRet, sRetN, sIf, sDrop, sAsg, sNext, sNever, sAug, asg_nm, asg_2, asg_3, asg_4, xVar, xC, aNil, aCons, xOp, xCall, xMt, xTup, xLst, xIf, xAnd, xOr, xNot, bOf, bTru, bAnd, bOr, bNot, bYes, gI2, gAdd, gSub, gLt, gLe, gGt, gGe, gIxT, gLen, gMin2, gMax2, gIsN, Rs.bind_ok, Rs.bind_exc, Rs.toS_ok, Rs.toS_exc, List.map_cons, List.map_nil, List.length_cons, List.length_nil, List.replicate, List.cons_append, List.nil_append, List.getElem?_cons_zero, List.getElem?_cons_succ, List.getElem?_nil, List.set_cons_zero, List.set_cons_succ, Nat.reduceAdd, Nat.reduceSub, Nat.reduceEqDiff, if_true, if_false, if_pos rfl, reduceIte, decide_true, decide_false, Bool.not_true, Bool.not_false, sizeLine_eq, Nat.reduceLeDiff, eqd_int, xFld, Bool.true_eq_false, Bool.false_eq_true, ite_toS, ite_bind, hd, xMeth, ea, rl, no_later, Option.isNone_none, eqd_str _ _ _ _ dotOk dotOk]
theorem run_ride (e : IsSys h i s) (c : Cd) {x : Nat} (hx : x ≠ 46) (ho : PyData.strOk (ch x) = true) {q : Int × Int} (hp : s.prices.lookup x = some q) (hl : 0 < c.left → s.transfer.isSome = true) :
    r_System_step [.ref i, c.pv, .str (ch x)] h = .ok (.tup [(ride s c q).1.pv, .int (ride s c q).2]) h := by
  have ea := e.at_
  have hd : ¬ ch x = ("." : Str) := fun z => hx ((ch_dot x).mp z)
  have hg : gDGet (.dct (pD s.prices)) (.str (ch x)) h = .ok (.tup [.int q.1, .int q.2]) h := by
    show (match dLook (pD s.prices) (.inr (ch x)) with | some v => Rs.ok v h | none => .bad) = _
    rw [dlook_pD, hp]
    rfl
  have he := eqd_str false (ch x) "." h ho dotOk
  have hi := in_ints (h := h) s.peak c.slot
  have rf := run_full e
  unfold r_System_step Cd.pv ride capped tPrice tLeft
  have hsc := eqd_int false
  by_cases hL : 0 < c.left
  · obtain ⟨⟨tt, tp⟩, ht⟩ := Option.isSome_iff_exists.mp (hl hL)
    cases hk : s.cap with
    | none =>
      cases hpk : s.peak.contains c.slot
      · simp only [runF, startS, sSeq, sSet, sRet, sRetN, sIf, sDrop, sAsg, sNext, sNever, sAug, asg_nm, asg_2, asg_3, asg_4, xVar, xC, aNil, aCons, xOp, xCall, xMt, xTup, xLst, xIf, xAnd, xOr, xNot, bOf, bTru, bAnd, bOr, bNot, bYes, gI2, gAdd, gSub, gLt, gLe, gGt, gGe, gIxT, gLen, gMin2, gMax2, gIsN, Rs.bind_ok, Rs.bind_exc, Rs.toS_ok, Rs.toS_exc, List.map_cons, List.map_nil, List.length_cons, List.length_nil, List.replicate, List.cons_append, List.nil_append, List.getElem?_cons_zero, List.getElem?_cons_succ, List.getElem?_nil, List.set_cons_zero, List.set_cons_succ, Nat.reduceAdd, Nat.reduceSub, Nat.reduceEqDiff, if_true, if_false, if_pos rfl, reduceIte, decide_true, decide_false, Bool.not_true, Bool.not_false, sizeLine_eq, Nat.reduceLeDiff, eqd_int, xFld, Bool.true_eq_false, Bool.false_eq_true, ite_toS, ite_bind, hd, xMeth, ea, he, fs_prices, hg, fs_peak, hi, hpk, fs_transfer, ht, oT, fs_cap, hk, oI, hL, mn, gI1, gI0]
      · simp only [runF, startS, sSeq, sSet, sRet, sRetN, sIf, sDrop, sAsg, sNext, sNever, sAug, asg_nm, asg_2, asg_3, asg_4, xVar, xC, aNil, aCons, xOp, xCall, xMt, xTup, xLst, xIf, xAnd, xOr, xNot, bOf, bTru, bAnd, bOr, bNot, bYes, gI2, gAdd, gSub, gLt, gLe, gGt, gGe, gIxT, gLen, gMin2, gMax2, gIsN, Rs.bind_ok, Rs.bind_exc, Rs.toS_ok, Rs.toS_exc, List.map_cons, List.map_nil, List.length_cons, List.length_nil, List.replicate, List.cons_append, List.nil_append, List.getElem?_cons_zero, List.getElem?_cons_succ, List.getElem?_nil, List.set_cons_zero, List.set_cons_succ, Nat.reduceAdd, Nat.reduceSub, Nat.reduceEqDiff, if_true, if_false, if_pos rfl, reduceIte, decide_true, decide_false, Bool.not_true, Bool.not_false, sizeLine_eq, Nat.reduceLeDiff, eqd_int, xFld, Bool.true_eq_false, Bool.false_eq_true, ite_toS, ite_bind, hd, xMeth, ea, he, fs_prices, hg, fs_peak, hi, hpk, fs_transfer, ht, oT, fs_cap, hk, oI, hL, mn, gI1, gI0]
    | some kk =>
      cases hpk : s.peak.contains c.slot
      · simp only [runF, startS, sSeq, sSet, sRet, sRetN, sIf, sDrop, sAsg, sNext, sNever, sAug, asg_nm, asg_2, asg_3, asg_4, xVar, xC, aNil, aCons, xOp, xCall, xMt, xTup, xLst, xIf, xAnd, xOr, xNot, bOf, bTru, bAnd, bOr, bNot, bYes, gI2, gAdd, gSub, gLt, gLe, gGt, gGe, gIxT, gLen, gMin2, gMax2, gIsN, Rs.bind_ok, Rs.bind_exc, Rs.toS_ok, Rs.toS_exc, List.map_cons, List.map_nil, List.length_cons, List.length_nil, List.replicate, List.cons_append, List.nil_append, List.getElem?_cons_zero, List.getElem?_cons_succ, List.getElem?_nil, List.set_cons_zero, List.set_cons_succ, Nat.reduceAdd, Nat.reduceSub, Nat.reduceEqDiff, if_true, if_false, if_pos rfl, reduceIte, decide_true, decide_false, Bool.not_true, Bool.not_false, sizeLine_eq, Nat.reduceLeDiff, eqd_int, xFld, Bool.true_eq_false, Bool.false_eq_true, ite_toS, ite_bind, hd, xMeth, ea, he, fs_prices, hg, fs_peak, hi, hpk, fs_transfer, ht, oT, fs_cap, hk, oI, hL, mn, gI1, gI0]
      · simp only [runF, startS, sSeq, sSet, sRet, sRetN, sIf, sDrop, sAsg, sNext, sNever, sAug, asg_nm, asg_2, asg_3, asg_4, xVar, xC, aNil, aCons, xOp, xCall, xMt, xTup, xLst, xIf, xAnd, xOr, xNot, bOf, bTru, bAnd, bOr, bNot, bYes, gI2, gAdd, gSub, gLt, gLe, gGt, gGe, gIxT, gLen, gMin2, gMax2, gIsN, Rs.bind_ok, Rs.bind_exc, Rs.toS_ok, Rs.toS_exc, List.map_cons, List.map_nil, List.length_cons, List.length_nil, List.replicate, List.cons_append, List.nil_append, List.getElem?_cons_zero, List.getElem?_cons_succ, List.getElem?_nil, List.set_cons_zero, List.set_cons_succ, Nat.reduceAdd, Nat.reduceSub, Nat.reduceEqDiff, if_true, if_false, if_pos rfl, reduceIte, decide_true, decide_false, Bool.not_true, Bool.not_false, sizeLine_eq, Nat.reduceLeDiff, eqd_int, xFld, Bool.true_eq_false, Bool.false_eq_true, ite_toS, ite_bind, hd, xMeth, ea, he, fs_prices, hg, fs_peak, hi, hpk, fs_transfer, ht, oT, fs_cap, hk, oI, hL, mn, gI1, gI0]
  · cases ht : s.transfer with
    | none =>
      cases hk : s.cap with
      | none =>
        cases hpk : s.peak.contains c.slot
        · simp only [runF, startS, sSeq, sSet, sRet, sRetN, sIf, sDrop, sAsg, sNext, sNever, sAug, asg_nm, asg_2, asg_3, asg_4, xVar, xC, aNil, aCons, xOp, xCall, xMt, xTup, xLst, xIf, xAnd, xOr, xNot, bOf, bTru, bAnd, bOr, bNot, bYes, gI2, gAdd, gSub, gLt, gLe, gGt, gGe, gIxT, gLen, gMin2, gMax2, gIsN, Rs.bind_ok, Rs.bind_exc, Rs.toS_ok, Rs.toS_exc, List.map_cons, List.map_nil, List.length_cons, List.length_nil, List.replicate, List.cons_append, List.nil_append, List.getElem?_cons_zero, List.getElem?_cons_succ, List.getElem?_nil, List.set_cons_zero, List.set_cons_succ, Nat.reduceAdd, Nat.reduceSub, Nat.reduceEqDiff, if_true, if_false, if_pos rfl, reduceIte, decide_true, decide_false, Bool.not_true, Bool.not_false, sizeLine_eq, Nat.reduceLeDiff, eqd_int, xFld, Bool.true_eq_false, Bool.false_eq_true, ite_toS, ite_bind, hd, xMeth, ea, he, fs_prices, hg, fs_peak, hi, hpk, fs_transfer, ht, oT, fs_cap, hk, oI, hL, mn, rf, no_full, Option.isNone_none, gI1, gI0]
        · simp only [runF, startS, sSeq, sSet, sRet, sRetN, sIf, sDrop, sAsg, sNext, sNever, sAug, asg_nm, asg_2, asg_3, asg_4, xVar, xC, aNil, aCons, xOp, xCall, xMt, xTup, xLst, xIf, xAnd, xOr, xNot, bOf, bTru, bAnd, bOr, bNot, bYes, gI2, gAdd, gSub, gLt, gLe, gGt, gGe, gIxT, gLen, gMin2, gMax2, gIsN, Rs.bind_ok, Rs.bind_exc, Rs.toS_ok, Rs.toS_exc, List.map_cons, List.map_nil, List.length_cons, List.length_nil, List.replicate, List.cons_append, List.nil_append, List.getElem?_cons_zero, List.getElem?_cons_succ, List.getElem?_nil, List.set_cons_zero, List.set_cons_succ, Nat.reduceAdd, Nat.reduceSub, Nat.reduceEqDiff, if_true, if_false, if_pos rfl, reduceIte, decide_true, decide_false, Bool.not_true, Bool.not_false, sizeLine_eq, Nat.reduceLeDiff, eqd_int, xFld, Bool.true_eq_false, Bool.false_eq_true, ite_toS, ite_bind, hd, xMeth, ea, he, fs_prices, hg, fs_peak, hi, hpk, fs_transfer, ht, oT, fs_cap, hk, oI, hL, mn, rf, no_full, Option.isNone_none, gI1, gI0]
      | some kk =>
        cases hpk : s.peak.contains c.slot
        · simp only [runF, startS, sSeq, sSet, sRet, sRetN, sIf, sDrop, sAsg, sNext, sNever, sAug, asg_nm, asg_2, asg_3, asg_4, xVar, xC, aNil, aCons, xOp, xCall, xMt, xTup, xLst, xIf, xAnd, xOr, xNot, bOf, bTru, bAnd, bOr, bNot, bYes, gI2, gAdd, gSub, gLt, gLe, gGt, gGe, gIxT, gLen, gMin2, gMax2, gIsN, Rs.bind_ok, Rs.bind_exc, Rs.toS_ok, Rs.toS_exc, List.map_cons, List.map_nil, List.length_cons, List.length_nil, List.replicate, List.cons_append, List.nil_append, List.getElem?_cons_zero, List.getElem?_cons_succ, List.getElem?_nil, List.set_cons_zero, List.set_cons_succ, Nat.reduceAdd, Nat.reduceSub, Nat.reduceEqDiff, if_true, if_false, if_pos rfl, reduceIte, decide_true, decide_false, Bool.not_true, Bool.not_false, sizeLine_eq, Nat.reduceLeDiff, eqd_int, xFld, Bool.true_eq_false, Bool.false_eq_true, ite_toS, ite_bind, hd, xMeth, ea, he, fs_prices, hg, fs_peak, hi, hpk, fs_transfer, ht, oT, fs_cap, hk, oI, hL, mn, rf, no_full, Option.isNone_none, gI1, gI0]
        · simp only [runF, startS, sSeq, sSet, sRet, sRetN, sIf, sDrop, sAsg, sNext, sNever, sAug, asg_nm, asg_2, asg_3, asg_4, xVar, xC, aNil, aCons, xOp, xCall, xMt, xTup, xLst, xIf, xAnd, xOr, xNot, bOf, bTru, bAnd, bOr, bNot, bYes, gI2, gAdd, gSub, gLt, gLe, gGt, gGe, gIxT, gLen, gMin2, gMax2, gIsN, Rs.bind_ok, Rs.bind_exc, Rs.toS_ok, Rs.toS_exc, List.map_cons, List.map_nil, List.length_cons, List.length_nil, List.replicate, List.cons_append, List.nil_append, List.getElem?_cons_zero, List.getElem?_cons_succ, List.getElem?_nil, List.set_cons_zero, List.set_cons_succ, Nat.reduceAdd, Nat.reduceSub, Nat.reduceEqDiff, if_true, if_false, if_pos rfl, reduceIte, decide_true, decide_false, Bool.not_true, Bool.not_false, sizeLine_eq, Nat.reduceLeDiff, eqd_int, xFld, Bool.true_eq_false, Bool.false_eq_true, ite_toS, ite_bind, hd, xMeth, ea, he, fs_prices, hg, fs_peak, hi, hpk, fs_transfer, ht, oT, fs_cap, hk, oI, hL, mn, rf, no_full, Option.isNone_none, gI1, gI0]
    | some q =>
      obtain ⟨tt, tp⟩ := q
      cases hk : s.cap with
      | none =>
        cases hpk : s.peak.contains c.slot
        · simp only [runF, startS, sSeq, sSet, sRet, sRetN, sIf, sDrop, sAsg, sNext, sNever, sAug, asg_nm, asg_2, asg_3, asg_4, xVar, xC, aNil, aCons, xOp, xCall, xMt, xTup, xLst, xIf, xAnd, xOr, xNot, bOf, bTru, bAnd, bOr, bNot, bYes, gI2, gAdd, gSub, gLt, gLe, gGt, gGe, gIxT, gLen, gMin2, gMax2, gIsN, Rs.bind_ok, Rs.bind_exc, Rs.toS_ok, Rs.toS_exc, List.map_cons, List.map_nil, List.length_cons, List.length_nil, List.replicate, List.cons_append, List.nil_append, List.getElem?_cons_zero, List.getElem?_cons_succ, List.getElem?_nil, List.set_cons_zero, List.set_cons_succ, Nat.reduceAdd, Nat.reduceSub, Nat.reduceEqDiff, if_true, if_false, if_pos rfl, reduceIte, decide_true, decide_false, Bool.not_true, Bool.not_false, sizeLine_eq, Nat.reduceLeDiff, eqd_int, xFld, Bool.true_eq_false, Bool.false_eq_true, ite_toS, ite_bind, hd, xMeth, ea, he, fs_prices, hg, fs_peak, hi, hpk, fs_transfer, ht, oT, fs_cap, hk, oI, hL, mn, rf, no_full, Option.isNone_none, gI1, gI0]
        · simp only [runF, startS, sSeq, sSet, sRet, sRetN, sIf, sDrop, sAsg, sNext, sNever, sAug, asg_nm, asg_2, asg_3, asg_4, xVar, xC, aNil, aCons, xOp, xCall, xMt, xTup, xLst, xIf, xAnd, xOr, xNot, bOf, bTru, bAnd, bOr, bNot, bYes, gI2, gAdd, gSub, gLt, gLe, gGt, gGe, gIxT, gLen, gMin2, gMax2, gIsN, Rs.bind_ok, Rs.bind_exc, Rs.toS_ok, Rs.toS_exc, List.map_cons, List.map_nil, List.length_cons, List.length_nil, List.replicate, List.cons_append, List.nil_append, List.getElem?_cons_zero, List.getElem?_cons_succ, List.getElem?_nil, List.set_cons_zero, List.set_cons_succ, Nat.reduceAdd, Nat.reduceSub, Nat.reduceEqDiff, if_true, if_false, if_pos rfl, reduceIte, decide_true, decide_false, Bool.not_true, Bool.not_false, sizeLine_eq, Nat.reduceLeDiff, eqd_int, xFld, Bool.true_eq_false, Bool.false_eq_true, ite_toS, ite_bind, hd, xMeth, ea, he, fs_prices, hg, fs_peak, hi, hpk, fs_transfer, ht, oT, fs_cap, hk, oI, hL, mn, rf, no_full, Option.isNone_none, gI1, gI0]
      | some kk =>
        cases hpk : s.peak.contains c.slot
        · simp only [runF, startS, sSeq, sSet, sRet, sRetN, sIf, sDrop, sAsg, sNext, sNever, sAug, asg_nm, asg_2, asg_3, asg_4, xVar, xC, aNil, aCons, xOp, xCall, xMt, xTup, xLst, xIf, xAnd, xOr, xNot, bOf, bTru, bAnd, bOr, bNot, bYes, gI2, gAdd, gSub, gLt, gLe, gGt, gGe, gIxT, gLen, gMin2, gMax2, gIsN, Rs.bind_ok, Rs.bind_exc, Rs.toS_ok, Rs.toS_exc, List.map_cons, List.map_nil, List.length_cons, List.length_nil, List.replicate, List.cons_append, List.nil_append, List.getElem?_cons_zero, List.getElem?_cons_succ, List.getElem?_nil, List.set_cons_zero, List.set_cons_succ, Nat.reduceAdd, Nat.reduceSub, Nat.reduceEqDiff, if_true, if_false, if_pos rfl, reduceIte, decide_true, decide_false, Bool.not_true, Bool.not_false, sizeLine_eq, Nat.reduceLeDiff, eqd_int, xFld, Bool.true_eq_false, Bool.false_eq_true, ite_toS, ite_bind, hd, xMeth, ea, he, fs_prices, hg, fs_peak, hi, hpk, fs_transfer, ht, oT, fs_cap, hk, oI, hL, mn, rf, no_full, Option.isNone_none, gI1, gI0]
        · simp only [runF, startS, sSeq, sSet, sRet, sRetN, sIf, sDrop, sAsg, sNext, sNever, sAug, asg_nm, asg_2, asg_3, asg_4, xVar, xC, aNil, aCons, xOp, xCall, xMt, xTup, xLst, xIf, xAnd, xOr, xNot, bOf, bTru, bAnd, bOr, bNot, bYes, gI2, gAdd, gSub, gLt, gLe, gGt, gGe, gIxT, gLen, gMin2, gMax2, gIsN, Rs.bind_ok, Rs.bind_exc, Rs.toS_ok, Rs.toS_exc, List.map_cons, List.map_nil, List.length_cons, List.length_nil, List.replicate, List.cons_append, List.nil_append, List.getElem?_cons_zero, List.getElem?_cons_succ, List.getElem?_nil, List.set_cons_zero, List.set_cons_succ, Nat.reduceAdd, Nat.reduceSub, Nat.reduceEqDiff, if_true, if_false, if_pos rfl, reduceIte, decide_true, decide_false, Bool.not_true, Bool.not_false, sizeLine_eq, Nat.reduceLeDiff, eqd_int, xFld, Bool.true_eq_false, Bool.false_eq_true, ite_toS, ite_bind, hd, xMeth, ea, he, fs_prices, hg, fs_peak, hi, hpk, fs_transfer, ht, oT, fs_cap, hk, oI, hL, mn, rf, no_full, Option.isNone_none, gI1, gI0]
end
end TR

set_option Elab.async false
set_option linter.all false
set_option maxRecDepth 100000
set_option maxHeartbeats 4000000
namespace TR
open PySem PySem.Spec L2
open SX (S)

theorem ch_S (c : Nat) : ch c = S [c] := rfl
theorem chars_S (l : List Nat) : chars (S l) = l.map fun c => .str (ch c) := rfl
theorem inS_one (neg : Bool) (a : List Nat) (c : Nat) (h : Hh) : gInS neg (.str (ch c)) (.str (S a)) h = .ok (.bl (if neg then !decide (c ∈ a) else decide (c ∈ a))) h := by
  show Rs.ok (PV.bl (if neg then !(!(Builtin.Str.occurrences (S a) (S [c]) 0 (S a).length 1).isEmpty) else !(Builtin.Str.occurrences (S a) (S [c]) 0 (S a).length 1).isEmpty)) h = _
  rw [SX.in_one]
theorem get_app {h : Hh} {i : Nat} {o : Ob} (e : h[i]? = some o) (t : Hh) : (h ++ t)[i]? = some o := by
  have hl : i < h.length := (List.getElem?_eq_some_iff.mp e).1
  rw [List.getElem?_append_left hl, e]
theorem IsSys.app {h : Hh} {i : Nat} {s : Sys} (e : IsSys h i s) (t : Hh) : IsSys (h ++ t) i s := get_app e t
theorem IsSys.lt {h : Hh} {i : Nat} {s : Sys} (e : IsSys h i s) : i < h.length := (List.getElem?_eq_some_iff.mp e).1
theorem IsSys.set {h : Hh} {i n : Nat} {s : Sys} (e : IsSys h i s) (hn : n ≠ i) (o : Ob) : IsSys (h.set n o) i s := by
  unfold IsSys
  rw [List.getElem?_set_ne hn]
  exact e
/-- the card's history: the state behind it, what its letters cost -/
def runS (s : Sys) : Cd → List Nat → Option (Cd × List Int)
  | c, [] => some (c, [])
  | c, x :: r => match step s c x with
    | none => none
    | some (d, k) => match runS s d r with
      | none => none
      | some (e, ks) => some (e, k :: ks)
def Cd.fit (s : Sys) (c : Cd) : Prop := 0 < c.left → s.transfer.isSome = true
def newC : Cd := ⟨0, 0, 0, 0⟩
theorem fit_new (s : Sys) : newC.fit s := fun z => absurd z (by decide)
theorem fit_step {s : Sys} {c d : Cd} {x : Nat} {k : Int} (hc : c.fit s) (e : step s c x = some (d, k)) : d.fit s := by
  unfold step at e
  split at e
  · cases e
    unfold later mx Cd.fit
    unfold Cd.fit at hc
    split <;> dsimp only <;> split <;> intro z <;> first | omega | (exact hc (by omega))
  · obtain ⟨q, hq, e2⟩ := Option.map_eq_some_iff.mp e
    unfold ride at e2
    dsimp only at e2
    unfold Cd.fit
    split at e2
    · rename_i hL
      cases e2
      exact hc
    · cases e2
      dsimp only
      unfold tLeft
      cases s.transfer with
      | none => intro z; exact absurd z (by decide)
      | some q => intro _; rfl
theorem run_step {h : Hh} {i : Nat} {s : Sys} (e : IsSys h i s) {c d : Cd} {x : Nat} {k : Int} (hc : c.fit s) (ho : PyData.strOk (ch x) = true) (z : step s c x = some (d, k)) : r_System_step [.ref i, c.pv, .str (ch x)] h = .ok (.tup [d.pv, .int k]) h := by
  unfold step at z
  split at z
  · rename_i hx
    cases z
    rw [hx]
    exact run_dot e c
  · rename_i hx
    obtain ⟨q, hq, e2⟩ := Option.map_eq_some_iff.mp z
    have e3 := congrArg Prod.fst e2
    have e4 := congrArg Prod.snd e2
    dsimp only at e3 e4
    rw [← e3, ← e4]
    exact run_ride e c hx ho hq hc

theorem ints_map : ∀ ks : List Int, intsOf (ks.map .int) = some ks
  | [] => rfl
  | k :: r => by
    show (match intsOf (r.map .int) with | some ns => some (k :: ns) | none => none) = _
    rw [ints_map r]
end TR

set_option Elab.async false
set_option linter.all false
set_option maxRecDepth 100000
set_option maxHeartbeats 4000000
namespace TR
open PySem PySem.Spec L2
open SX (S)

/-! ### the states that are reached -/
def Cd.key (c : Cd) : NestedKey := .tup [.num c.slot, .num c.left, .num c.paid, .num c.count]
theorem nkey_pv (c : Cd) : nkey c.pv = some c.key := rfl
theorem key_inj {c d : Cd} (e : c.key = d.key) : c = d := by
  obtain ⟨a, b, p, q⟩ := c
  obtain ⟨a', b', p', q'⟩ := d
  unfold Cd.key at e
  injection e with e
  simp only [List.cons.injEq, NestedKey.num.injEq, and_true] at e
  obtain ⟨h1, h2, h3, h4⟩ := e
  rw [h1, h2, h3, h4]
def kD (f : List Cd) : List (PV × PV) := f.map fun c => (c.pv, .bl true)
theorem nlook_kD (f : List Cd) (c : Cd) : (nLook (kD f) c.key).isSome = decide (c ∈ f) := by
  induction f with
  | nil => rfl
  | cons d r ih =>
    show (if nkey d.pv = some c.key then some (PV.bl true) else nLook (kD r) c.key).isSome = _
    by_cases e : d = c
    · rw [e, if_pos (nkey_pv c)]
      exact (decide_eq_true List.mem_cons_self).symm
    · have hn : ¬ nkey d.pv = some c.key := fun z => e (key_inj (Option.some.inj ((nkey_pv d).symm.trans z)))
      rw [if_neg hn, ih]
      have : (c ∈ d :: r) ↔ c ∈ r := ⟨fun m => by
        rcases List.mem_cons.mp m with m | m
        · exact absurd m.symm e
        · exact m, List.mem_cons_of_mem _⟩
      by_cases q : c ∈ r
      · rw [decide_eq_true q, decide_eq_true (this.mpr q)]
      · rw [decide_eq_false q, decide_eq_false fun z => q (this.mp z)]
theorem nput_kD {f : List Cd} {c : Cd} (h : c ∉ f) : nPut (kD f) c.pv c.key (.bl true) = kD (f ++ [c]) := by
  induction f with
  | nil => rfl
  | cons d r ih =>
    have hn : ¬ nkey d.pv = some c.key := fun z => h (by
      rw [key_inj (Option.some.inj ((nkey_pv d).symm.trans z))]
      exact List.mem_cons_self)
    show (if nkey d.pv = some c.key then _ else (d.pv, PV.bl true) :: nPut (kD r) c.pv c.key (.bl true)) = _
    rw [if_neg hn, ih fun m => h (List.mem_cons_of_mem _ m)]
    rfl
/-- the letters from a state: what is found then -/
def addL (s : Sys) (c : Cd) : List Nat → List Cd → Option (List Cd)
  | [], f => some f
  | x :: r, f => match step s c x with
    | none => none
    | some (d, _) => addL s c r (if d ∈ f then f else f ++ [d])
def reach (s : Sys) (bound : Int) : Nat → Nat → List Cd → Option (List Cd)
  | 0, _, _ => none
  | n + 1, k, f => if (k : Int) < (f.length : Nat) ∧ (f.length : Int) ≤ bound then match f[k]? with
      | none => none
      | some c => match addL s c s.lets f with
        | none => none
        | some g => reach s bound n (k + 1) g
    else some f

def bR : Sx := sSeq (sAsg (.tp [.nm 6, .nm 7]) (xMeth 3 "step" r_System_step (xVar 0) (aCons (xOp gIxL (xVar 2) (xVar 4)) (aCons (xVar 5) (aNil))))) (sIf (bOf (xOp (gNIn true) (xVar 6) (xVar 3))) (sSeq (sNPutR (xVar 3) (xVar 6) (xC (.bl true))) (sDrop (xBM tList gAppend (xVar 2) (aCons (xVar 6) (aNil))))) (sNext))
def cW : Eb := bAnd (bOf (xOp gLt (xVar 4) (xCall gLen (aCons (xVar 2) (aNil))))) (bOf (xOp gLe (xCall gLen (aCons (xVar 2) (aNil))) (xVar 1)))
def bW : Sx := sSeq (sFor (iStrR (xFld 3 "letters" (xVar 0))) (.nm 5) bR) (sAug 4 gAdd (xC (.int 1)))
theorem reached_def : r_reached = runF 2 8 (sSeq (sSet 2 (xLstI (aCons (xC (.tup [.int 0, .int 0, .int 0, .int 0])) (aNil)))) (sSeq (sSet 3 (xDisp1 (xC (.tup [.int 0, .int 0, .int 0, .int 0])) (xC (.bl true)))) (sSeq (sSet 4 (xC (.int 0))) (sSeq (whlL cW bW 1000000) (sRet (xFrzA (xVar 2))))))) := rfl
theorem atI_nat {l : List PV} {k : Nat} {v : PV} (e : l[k]? = some v) : atI l (k : Nat) = some v := by
  have hk := (List.getElem?_eq_some_iff.mp e).1
  unfold atI ixN
  rw [if_pos (by omega), if_pos (by omega), Option.bind_some, Int.toNat_natCast, e]
theorem set_same {h : Hh} {n : Nat} {o : Ob} (e : h[n]? = some o) : h.set n o = h := by
  refine List.ext_getElem? fun j => ?_
  by_cases hj : n = j
  · subst hj
    rw [List.getElem?_set_self (List.getElem?_eq_some_iff.mp e).1, e]
  · rw [List.getElem?_set_ne hj]
section
variable {s : Sys} {i n m : Nat}
/-- the heap with what is found at n, m -/
def put2 (h : Hh) (n m : Nat) (f : List Cd) : Hh := (h.set n (.lst (f.map Cd.pv))).set m (.dcn (kD f))
structure R2 (h : Hh) (i n m : Nat) (s : Sys) (f : List Cd) : Prop where
  sys : IsSys h i s
  lst : h[n]? = some (.lst (f.map Cd.pv))
  dcn : h[m]? = some (.dcn (kD f))
  ni : n ≠ i
  mi : m ≠ i
  nm : n ≠ m
theorem R2.put {h : Hh} {f : List Cd} (r : R2 h i n m s f) (g : List Cd) : R2 (put2 h n m g) i n m s g := by
  have h1 := (List.getElem?_eq_some_iff.mp r.lst).1
  have h2 := (List.getElem?_eq_some_iff.mp r.dcn).1
  refine ⟨(r.sys.set r.ni _).set r.mi _, ?_, ?_, r.ni, r.mi, r.nm⟩
  · unfold put2
    rw [List.getElem?_set_ne r.nm.symm, List.getElem?_set_self h1]
  · unfold put2
    rw [List.getElem?_set_self (by rw [List.length_set]; exact h2)]
theorem put_put {h : Hh} {f g : List Cd} (hn : n ≠ m) : put2 (put2 h n m f) n m g = put2 h n m g := by
  unfold put2
  rw [List.set_comm _ _ hn.symm, List.set_set, List.set_set]
theorem R2.put_same {h : Hh} {f : List Cd} (r : R2 h i n m s f) : put2 h n m f = h := by
  unfold put2
  rw [set_same r.lst, set_same r.dcn]
theorem turn_R {h : Hh} {f : List Cd} (r : R2 h i n m s f) {k x : Nat} {c d : Cd} {j : Int} (hk : f[k]? = some c) (hc : c.fit s) (ho : PyData.strOk (ch x) = true) (e : step s c x = some (d, j)) (hz : f.length < sizeLine) (a1 a6 a7 : Option PV) :
    bR [some (.ref i), a1, some (.ref n), some (.ref m), some (.int k), some (.str (ch x)), a6, a7] h = .nx [some (.ref i), a1, some (.ref n), some (.ref m), some (.int k), some (.str (ch x)), some d.pv, some (.int j)] (put2 h n m (if d ∈ f then f else f ++ [d])) := by
  have ea := r.sys.at_
  have hs := run_step r.sys hc ho e
  have hx : gIxL (.ref n) (.int k) h = .ok c.pv h := by
    have hk2 : (f.map Cd.pv)[k]? = some c.pv := by rw [List.getElem?_map, hk]; rfl
    unfold gIxL asL
    dsimp only
    rw [r.lst]
    dsimp only
    rw [atI_nat hk2]
  have hq : gNIn true d.pv (.ref m) h = .ok (.bl (!decide (d ∈ f))) h := by
    unfold gNIn asN
    dsimp only
    rw [r.dcn, nkey_pv]
    dsimp only
    rw [nlook_kD]
    rfl
  unfold bR
  by_cases hd : d ∈ f
  · rw [if_pos hd, r.put_same]
    rw [decide_eq_true hd] at hq
    simp only [runF, startS, sSeq, sSet, sRet, sRetN, sIf, sDrop, sAsg, sNext, sNever, sAug, asg_nm, asg_2, asg_3, asg_4, xVar, xC, aNil, aCons, xOp, xCall, xMt, xTup, xLst, xIf, xAnd, xOr, xNot, bOf, bTru, bAnd, bOr, bNot, bYes, gI2, gAdd, gSub, gLt, gLe, gGt, gGe, gIxT, gLen, gMin2, gMax2, gIsN, Rs.bind_ok, Rs.bind_exc, Rs.toS_ok, Rs.toS_exc, List.map_cons, List.map_nil, List.length_cons, List.length_nil, List.replicate, List.cons_append, List.nil_append, List.getElem?_cons_zero, List.getElem?_cons_succ, List.getElem?_nil, List.set_cons_zero, List.set_cons_succ, Nat.reduceAdd, Nat.reduceSub, Nat.reduceEqDiff, if_true, if_false, if_pos rfl, reduceIte, decide_true, decide_false, Bool.not_true, Bool.not_false, sizeLine_eq, Nat.reduceLeDiff, eqd_int, xFld, Bool.true_eq_false, Bool.false_eq_true, ite_toS, ite_bind, xMeth, ea, no_step, Option.isNone_none, hx, hs, hq]
  · rw [if_neg hd]
    rw [decide_eq_false hd] at hq
    have h1 : sNPutR (xVar 3) (xVar 6) (xC (.bl true)) [some (.ref i), a1, some (.ref n), some (.ref m), some (.int k), some (.str (ch x)), some d.pv, some (.int j)] h
        = .nx [some (.ref i), a1, some (.ref n), some (.ref m), some (.int k), some (.str (ch x)), some d.pv, some (.int j)] (h.set m (.dcn (kD (f ++ [d])))) := by
      unfold sNPutR
      simp only [runF, startS, sSeq, sSet, sRet, sRetN, sIf, sDrop, sAsg, sNext, sNever, sAug, asg_nm, asg_2, asg_3, asg_4, xVar, xC, aNil, aCons, xOp, xCall, xMt, xTup, xLst, xIf, xAnd, xOr, xNot, bOf, bTru, bAnd, bOr, bNot, bYes, gI2, gAdd, gSub, gLt, gLe, gGt, gGe, gIxT, gLen, gMin2, gMax2, gIsN, Rs.bind_ok, Rs.bind_exc, Rs.toS_ok, Rs.toS_exc, List.map_cons, List.map_nil, List.length_cons, List.length_nil, List.replicate, List.cons_append, List.nil_append, List.getElem?_cons_zero, List.getElem?_cons_succ, List.getElem?_nil, List.set_cons_zero, List.set_cons_succ, Nat.reduceAdd, Nat.reduceSub, Nat.reduceEqDiff, if_true, if_false, if_pos rfl, reduceIte, decide_true, decide_false, Bool.not_true, Bool.not_false, sizeLine_eq, Nat.reduceLeDiff, eqd_int, xFld, Bool.true_eq_false, Bool.false_eq_true, ite_toS, ite_bind, nkey_pv, r.dcn, nput_kD hd]
      rw [if_pos (by unfold kD; rw [List.length_map]; rw [sizeLine_eq] at hz; omega)]
    have hl : (h.set m (.dcn (kD (f ++ [d]))))[n]? = some (.lst (f.map Cd.pv)) := by rw [List.getElem?_set_ne r.nm.symm, r.lst]
    have ht : tList (.ref n) (h.set m (.dcn (kD (f ++ [d])))) = true := by
      show (asL (.ref n) _).isSome = true
      unfold asL
      dsimp only
      rw [hl]
      rfl
    have hg : gAppend (.ref n) [d.pv] (h.set m (.dcn (kD (f ++ [d])))) = .ok .non (put2 h n m (f ++ [d])) := by
      unfold gAppend
      dsimp only
      rw [hl]
      dsimp only
      rw [if_pos (by rw [List.length_map]; exact hz)]
      unfold put2
      rw [List.set_comm _ _ r.nm, List.map_append]
      rfl
    simp only [runF, startS, sSeq, sSet, sRet, sRetN, sIf, sDrop, sAsg, sNext, sNever, sAug, asg_nm, asg_2, asg_3, asg_4, xVar, xC, aNil, aCons, xOp, xCall, xMt, xTup, xLst, xIf, xAnd, xOr, xNot, bOf, bTru, bAnd, bOr, bNot, bYes, gI2, gAdd, gSub, gLt, gLe, gGt, gGe, gIxT, gLen, gMin2, gMax2, gIsN, Rs.bind_ok, Rs.bind_exc, Rs.toS_ok, Rs.toS_exc, List.map_cons, List.map_nil, List.length_cons, List.length_nil, List.replicate, List.cons_append, List.nil_append, List.getElem?_cons_zero, List.getElem?_cons_succ, List.getElem?_nil, List.set_cons_zero, List.set_cons_succ, Nat.reduceAdd, Nat.reduceSub, Nat.reduceEqDiff, if_true, if_false, if_pos rfl, reduceIte, decide_true, decide_false, Bool.not_true, Bool.not_false, sizeLine_eq, Nat.reduceLeDiff, eqd_int, xFld, Bool.true_eq_false, Bool.false_eq_true, ite_toS, ite_bind, xMeth, ea, no_step, Option.isNone_none, hx, hs, hq, h1, xBM, ht, hg]
theorem letters_R : ∀ (l : List Nat) {h : Hh} {f g : List Cd} (r : R2 h i n m s f) {k : Nat} {c : Cd} (hk : f[k]? = some c) (hc : c.fit s) (ho : ∀ x ∈ l, PyData.strOk (ch x) = true) (e : addL s c l f = some g) (hz : f.length + l.length < sizeLine) (a1 a5 a6 a7 : Option PV),
    ∃ b5 b6 b7, forL (.nm 5) bR (l.map fun x => .str (ch x)) [some (.ref i), a1, some (.ref n), some (.ref m), some (.int k), a5, a6, a7] h = .nx [some (.ref i), a1, some (.ref n), some (.ref m), some (.int k), b5, b6, b7] (put2 h n m g)
  | [], h, f, g, r, k, c, hk, hc, ho, e, hz, a1, a5, a6, a7 => by
    cases e
    exact ⟨a5, a6, a7, by rw [r.put_same]; rfl⟩
  | x :: l, h, f, g, r, k, c, hk, hc, ho, e, hz, a1, a5, a6, a7 => by
    unfold addL at e
    split at e
    · cases e
    · rename_i d j e1
      simp only [List.length_cons] at hz
      have t := turn_R r hk hc (ho x List.mem_cons_self) e1 (by omega) a1 a6 a7
      have r2 := r.put (if d ∈ f then f else f ++ [d])
      have hk2 : (if d ∈ f then f else f ++ [d])[k]? = some c := by
        split
        · exact hk
        · rw [List.getElem?_append_left (List.getElem?_eq_some_iff.mp hk).1, hk]
      have hz2 : (if d ∈ f then f else f ++ [d]).length + l.length < sizeLine := by
        split
        · omega
        · simp only [List.length_append, List.length_cons, List.length_nil]; omega
      obtain ⟨b5, b6, b7, ih⟩ := letters_R l r2 hk2 hc (fun y hy => ho y (List.mem_cons_of_mem _ hy)) e hz2 a1 (some (.str (ch x))) (some d.pv) (some (.int j))
      refine ⟨b5, b6, b7, ?_⟩
      rw [List.map_cons]
      unfold forL
      simp only [runF, startS, sSeq, sSet, sRet, sRetN, sIf, sDrop, sAsg, sNext, sNever, sAug, asg_nm, asg_2, asg_3, asg_4, xVar, xC, aNil, aCons, xOp, xCall, xMt, xTup, xLst, xIf, xAnd, xOr, xNot, bOf, bTru, bAnd, bOr, bNot, bYes, gI2, gAdd, gSub, gLt, gLe, gGt, gGe, gIxT, gLen, gMin2, gMax2, gIsN, Rs.bind_ok, Rs.bind_exc, Rs.toS_ok, Rs.toS_exc, List.map_cons, List.map_nil, List.length_cons, List.length_nil, List.replicate, List.cons_append, List.nil_append, List.getElem?_cons_zero, List.getElem?_cons_succ, List.getElem?_nil, List.set_cons_zero, List.set_cons_succ, Nat.reduceAdd, Nat.reduceSub, Nat.reduceEqDiff, if_true, if_false, if_pos rfl, reduceIte, decide_true, decide_false, Bool.not_true, Bool.not_false, sizeLine_eq, Nat.reduceLeDiff, eqd_int, xFld, Bool.true_eq_false, Bool.false_eq_true, ite_toS, ite_bind, t]
      rw [ih, put_put r.nm]
theorem addL_fit {c : Cd} (hc : c.fit s) : ∀ {l : List Nat} {f g : List Cd}, (∀ d ∈ f, d.fit s) → addL s c l f = some g → (∀ d ∈ g, d.fit s) ∧ g.length ≤ f.length + l.length ∧ ∀ d ∈ f, d ∈ g
  | [], f, g, hf, e => by
    cases e
    exact ⟨hf, Nat.le_refl _, fun _ h => h⟩
  | x :: l, f, g, hf, e => by
    unfold addL at e
    split at e
    · cases e
    · rename_i d j e1
      have hd := fit_step hc e1
      obtain ⟨h1, h2, h3⟩ := addL_fit hc (l := l) (f := if d ∈ f then f else f ++ [d]) (by
        split
        · exact hf
        · intro y hy
          rcases List.mem_append.mp hy with hy | hy
          · exact hf y hy
          · rw [List.mem_singleton.mp hy]; exact hd) e
      refine ⟨h1, ?_, fun y hy => h3 y ?_⟩
      · refine Nat.le_trans h2 ?_
        split
        · simp only [List.length_cons]; omega
        · simp only [List.length_append, List.length_cons, List.length_nil]; omega
      · split
        · exact hy
        · exact List.mem_append_left _ hy
theorem loop_R (hb : Int) (hbz : hb + (s.lets.length : Nat) < 1000000) (ho : ∀ x ∈ s.lets, PyData.strOk (ch x) = true) : ∀ (q N : Nat) {h : Hh} {f g : List Cd} (r : R2 h i n m s f) {k : Nat} (hf : ∀ d ∈ f, d.fit s) (e : reach s hb q k f = some g) (hN : q ≤ N) (hfz : f.length ≤ 1000000) (a5 a6 a7 : Option PV),
    ∃ k' b5 b6 b7, whlL cW bW N [some (.ref i), some (.int hb), some (.ref n), some (.ref m), some (.int (k : Nat)), a5, a6, a7] h = .nx [some (.ref i), some (.int hb), some (.ref n), some (.ref m), some (.int k'), b5, b6, b7] (put2 h n m g)
  | 0, N, h, f, g, r, k, hf, e, hN, hfz, a5, a6, a7 => by cases e
  | q + 1, 0, h, f, g, r, k, hf, e, hN, hfz, a5, a6, a7 => absurd hN (by omega)
  | q + 1, N + 1, h, f, g, r, k, hf, e, hN, hfz, a5, a6, a7 => by
    have ea := r.sys.at_
    have hl : asL (.ref n) h = some (f.map Cd.pv) := by
      unfold asL
      dsimp only
      rw [r.lst]
    unfold reach at e
    have hc : ∀ st : Sl, st = [some (.ref i), some (.int hb), some (.ref n), some (.ref m), some (.int (k : Nat)), a5, a6, a7] → cW st h = .ok (decide ((k : Int) < (f.length : Nat) ∧ (f.length : Int) ≤ hb)) h := by
      rintro st rfl
      unfold cW
      by_cases h1 : (k : Int) < (f.length : Nat)
      · by_cases h2 : (f.length : Int) ≤ hb
        · simp only [runF, startS, sSeq, sSet, sRet, sRetN, sIf, sDrop, sAsg, sNext, sNever, sAug, asg_nm, asg_2, asg_3, asg_4, xVar, xC, aNil, aCons, xOp, xCall, xMt, xTup, xLst, xIf, xAnd, xOr, xNot, bOf, bTru, bAnd, bOr, bNot, bYes, gI2, gAdd, gSub, gLt, gLe, gGt, gGe, gIxT, gLen, gMin2, gMax2, gIsN, Rs.bind_ok, Rs.bind_exc, Rs.toS_ok, Rs.toS_exc, List.map_cons, List.map_nil, List.length_cons, List.length_nil, List.replicate, List.cons_append, List.nil_append, List.getElem?_cons_zero, List.getElem?_cons_succ, List.getElem?_nil, List.set_cons_zero, List.set_cons_succ, Nat.reduceAdd, Nat.reduceSub, Nat.reduceEqDiff, if_true, if_false, if_pos rfl, reduceIte, decide_true, decide_false, Bool.not_true, Bool.not_false, sizeLine_eq, Nat.reduceLeDiff, eqd_int, xFld, Bool.true_eq_false, Bool.false_eq_true, ite_toS, ite_bind, hl, List.length_map, h1, h2, and_self]
        · simp only [runF, startS, sSeq, sSet, sRet, sRetN, sIf, sDrop, sAsg, sNext, sNever, sAug, asg_nm, asg_2, asg_3, asg_4, xVar, xC, aNil, aCons, xOp, xCall, xMt, xTup, xLst, xIf, xAnd, xOr, xNot, bOf, bTru, bAnd, bOr, bNot, bYes, gI2, gAdd, gSub, gLt, gLe, gGt, gGe, gIxT, gLen, gMin2, gMax2, gIsN, Rs.bind_ok, Rs.bind_exc, Rs.toS_ok, Rs.toS_exc, List.map_cons, List.map_nil, List.length_cons, List.length_nil, List.replicate, List.cons_append, List.nil_append, List.getElem?_cons_zero, List.getElem?_cons_succ, List.getElem?_nil, List.set_cons_zero, List.set_cons_succ, Nat.reduceAdd, Nat.reduceSub, Nat.reduceEqDiff, if_true, if_false, if_pos rfl, reduceIte, decide_true, decide_false, Bool.not_true, Bool.not_false, sizeLine_eq, Nat.reduceLeDiff, eqd_int, xFld, Bool.true_eq_false, Bool.false_eq_true, ite_toS, ite_bind, hl, List.length_map, h1, h2, and_false]
      · simp only [runF, startS, sSeq, sSet, sRet, sRetN, sIf, sDrop, sAsg, sNext, sNever, sAug, asg_nm, asg_2, asg_3, asg_4, xVar, xC, aNil, aCons, xOp, xCall, xMt, xTup, xLst, xIf, xAnd, xOr, xNot, bOf, bTru, bAnd, bOr, bNot, bYes, gI2, gAdd, gSub, gLt, gLe, gGt, gGe, gIxT, gLen, gMin2, gMax2, gIsN, Rs.bind_ok, Rs.bind_exc, Rs.toS_ok, Rs.toS_exc, List.map_cons, List.map_nil, List.length_cons, List.length_nil, List.replicate, List.cons_append, List.nil_append, List.getElem?_cons_zero, List.getElem?_cons_succ, List.getElem?_nil, List.set_cons_zero, List.set_cons_succ, Nat.reduceAdd, Nat.reduceSub, Nat.reduceEqDiff, if_true, if_false, if_pos rfl, reduceIte, decide_true, decide_false, Bool.not_true, Bool.not_false, sizeLine_eq, Nat.reduceLeDiff, eqd_int, xFld, Bool.true_eq_false, Bool.false_eq_true, ite_toS, ite_bind, hl, List.length_map, h1, false_and]
    have hc := hc _ rfl
    unfold whlL
    rw [hc, Rs.toS_ok]
    split at e
    · rename_i hcond
      rw [if_pos (decide_eq_true hcond)]
      split at e
      · cases e
      · rename_i c hk
        split at e
        · cases e
        · rename_i f2 e1
          have hcf := hf c (List.mem_of_getElem? hk)
          obtain ⟨w1, w2, _⟩ := addL_fit hcf hf e1
          have hz : f.length + s.lets.length < sizeLine := by rw [sizeLine_eq]; omega
          obtain ⟨b5, b6, b7, t⟩ := letters_R s.lets r hk hcf ho e1 hz (some (.int hb)) a5 a6 a7
          have hw : bW [some (.ref i), some (.int hb), some (.ref n), some (.ref m), some (.int (k : Nat)), a5, a6, a7] h = .nx [some (.ref i), some (.int hb), some (.ref n), some (.ref m), some (.int ((k + 1 : Nat) : Int)), b5, b6, b7] (put2 h n m f2) := by
            unfold bW
            have hch : chars ⟨s.lets.toArray⟩ = s.lets.map fun x => .str (ch x) := chars_S s.lets
            simp only [runF, startS, sSeq, sSet, sRet, sRetN, sIf, sDrop, sAsg, sNext, sNever, sAug, asg_nm, asg_2, asg_3, asg_4, xVar, xC, aNil, aCons, xOp, xCall, xMt, xTup, xLst, xIf, xAnd, xOr, xNot, bOf, bTru, bAnd, bOr, bNot, bYes, gI2, gAdd, gSub, gLt, gLe, gGt, gGe, gIxT, gLen, gMin2, gMax2, gIsN, Rs.bind_ok, Rs.bind_exc, Rs.toS_ok, Rs.toS_exc, List.map_cons, List.map_nil, List.length_cons, List.length_nil, List.replicate, List.cons_append, List.nil_append, List.getElem?_cons_zero, List.getElem?_cons_succ, List.getElem?_nil, List.set_cons_zero, List.set_cons_succ, Nat.reduceAdd, Nat.reduceSub, Nat.reduceEqDiff, if_true, if_false, if_pos rfl, reduceIte, decide_true, decide_false, Bool.not_true, Bool.not_false, sizeLine_eq, Nat.reduceLeDiff, eqd_int, xFld, Bool.true_eq_false, Bool.false_eq_true, ite_toS, ite_bind, sFor, iStrR, ea, fs_letters, hch, t]
            rfl
          rw [hw]
          obtain ⟨k', c5, c6, c7, ih⟩ := loop_R hb hbz ho q N (r.put f2) w1 e (by omega) (by omega) b5 b6 b7
          exact ⟨k', c5, c6, c7, by show whlL cW bW N _ _ = _; rw [ih, put_put r.nm]⟩
    · rename_i hcond
      cases e
      rw [if_neg (by rw [decide_eq_false hcond]; exact Bool.false_ne_true), r.put_same]
      exact ⟨k, a5, a6, a7, rfl⟩
theorem run_reached {h : Hh} (e : IsSys h i s) {g : List Cd} {q : Nat} (b : Int) (hbz : b + (s.lets.length : Nat) < 1000000) (ho : ∀ x ∈ s.lets, PyData.strOk (ch x) = true) (hr : reach s b q 0 [newC] = some g) (hq : q ≤ 1000000) :
    r_reached [.ref i, .int b] h = .ok (.lst (g.map Cd.pv)) (h ++ [.gone, .dcn (kD g)]) := by
  have hl := e.lt
  have r : R2 (h ++ [.lst [newC.pv], .dcn (kD [newC])]) i h.length (h.length + 1) s [newC] := by
    refine ⟨e.app _, ?_, ?_, Nat.ne_of_gt hl, by omega, by omega⟩
    · rw [List.getElem?_append_right (Nat.le_refl _)]; simp
    · rw [List.getElem?_append_right (by omega)]; simp
  obtain ⟨k', b5, b6, b7, w⟩ := loop_R b hbz ho q 1000000 r (k := 0) (fun d hd => by rw [List.mem_singleton.mp hd]; exact fit_new s) hr hq (by decide) none none none
  have hp : put2 (h ++ [.lst [newC.pv], .dcn (kD [newC])]) h.length (h.length + 1) g = h ++ [.lst (g.map Cd.pv), .dcn (kD g)] := by
    unfold put2
    rw [List.set_append_right _ _ (by omega), List.set_append_right _ _ (by omega)]
    simp
  rw [hp] at w
  change whlL cW bW 1000000 [some (.ref i), some (.int b), some (.ref h.length), some (.ref (h.length + 1)), some (.int 0), none, none, none] _ = _ at w
  have hf : frzV (.ref h.length) (h ++ [.lst (g.map Cd.pv), .dcn (kD g)]) = some (.lst (g.map Cd.pv), h ++ [.gone, .dcn (kD g)]) := by
    unfold frzV
    simp [frzO]
  have hn : (PV.tup [.int 0, .int 0, .int 0, .int 0]) = newC.pv := rfl
  rw [reached_def]
  have hd : ∀ (st : Sl) (hh : Hh), xDisp1 (xC newC.pv) (xC (.bl true)) st hh = .ok (.ref hh.length) (hh ++ [.dcn (kD [newC])]) := fun st hh => rfl
  rw [hn]
  have hw2 : (h ++ [Ob.lst [newC.pv]]).length = h.length + 1 := by simp
  have hw3 : (h ++ [Ob.lst [newC.pv]]) ++ [Ob.dcn (kD [newC])] = h ++ [.lst [newC.pv], .dcn (kD [newC])] := by simp
  simp only [runF, startS, sSeq, sSet, sRet, sRetN, sIf, sDrop, sAsg, sNext, sNever, sAug, asg_nm, asg_2, asg_3, asg_4, xVar, xC, aNil, aCons, xOp, xCall, xMt, xTup, xLst, xIf, xAnd, xOr, xNot, bOf, bTru, bAnd, bOr, bNot, bYes, gI2, gAdd, gSub, gLt, gLe, gGt, gGe, gIxT, gLen, gMin2, gMax2, gIsN, Rs.bind_ok, Rs.bind_exc, Rs.toS_ok, Rs.toS_exc, List.map_cons, List.map_nil, List.length_cons, List.length_nil, List.replicate, List.cons_append, List.nil_append, List.getElem?_cons_zero, List.getElem?_cons_succ, List.getElem?_nil, List.set_cons_zero, List.set_cons_succ, Nat.reduceAdd, Nat.reduceSub, Nat.reduceEqDiff, if_true, if_false, if_pos rfl, reduceIte, decide_true, decide_false, Bool.not_true, Bool.not_false, sizeLine_eq, Nat.reduceLeDiff, eqd_int, xFld, Bool.true_eq_false, Bool.false_eq_true, ite_toS, ite_bind, xLstI, hd, hw2, hw3, w, xFrzA, hf]
end
end TR

set_option Elab.async false
set_option linter.all false
set_option maxRecDepth 100000
set_option maxHeartbeats 4000000
namespace TR
open PySem PySem.Spec L2
open SX (S)

/-! ### systems by their rows -/
abbrev Row : Type := Str × List PV
def rowP (r : Row) : PV := .tup (.str r.1 :: r.2)
structure SD where
  slots : Int
  peak : Option (List Int)
  rides : List (Nat × Int × Int)
  transfer : Option (Int × Int)
  cap : Option Int
  bonus : Option Int
  deriving DecidableEq
def rPeak : Option (List Int) → List Row
  | none => []
  | some p => [("peak", p.map .int)]
def rRide (q : Nat × Int × Int) : Row := ("ride", [.str (ch q.1), .int q.2.1, .int q.2.2])
def rTransfer : Option (Int × Int) → List Row
  | none => []
  | some q => [("transfer", [.int q.1, .int q.2])]
def rOne (w : Str) : Option Int → List Row
  | none => []
  | some k => [(w, [.int k])]
def SD.tail (d : SD) : List Row := rTransfer d.transfer ++ (rOne "cap" d.cap ++ rOne "bonus" d.bonus)
def SD.rowsW (d : SD) : List Row := ("slots", [.int d.slots]) :: (rPeak d.peak ++ (d.rides.map rRide ++ d.tail))
def SD.sys (d : SD) : Sys := ⟨d.rowsW.map rowP, d.slots, d.peak.getD [], d.rides, d.transfer, d.cap, d.bonus⟩

/-! ### dicts -/
theorem dlook_dput (l : List (PV × PV)) (k k' : Key) (v : PV) : dLook (dPut l k v) k' = if k = k' then some v else dLook l k' := by
  have hk : keyV (keyP k) = some k := by cases k <;> rfl
  induction l with
  | nil =>
    show (if keyV (keyP k) = some k' then some v else none) = _
    rw [hk]
    by_cases e : k = k'
    · rw [if_pos (by rw [e]), if_pos e]
    · rw [if_neg fun z => e (Option.some.inj z), if_neg e]
      rfl
  | cons q r ih =>
    obtain ⟨a, b⟩ := q
    show dLook (if keyV a = some k then (a, v) :: r else (a, b) :: dPut r k v) k' = _
    by_cases e : keyV a = some k
    · rw [if_pos e]
      show (if keyV a = some k' then some v else dLook r k') = if k = k' then some v else (if keyV a = some k' then some b else dLook r k')
      by_cases e2 : k = k'
      · rw [if_pos e2, if_pos (by rw [e, e2])]
      · have : ¬ keyV a = some k' := fun z => e2 (Option.some.inj (e.symm.trans z))
        rw [if_neg e2, if_neg this, if_neg this]
    · rw [if_neg e]
      show (if keyV a = some k' then some b else dLook (dPut r k v) k') = if k = k' then some v else (if keyV a = some k' then some b else dLook r k')
      rw [ih]
      by_cases e2 : k = k'
      · rw [if_pos e2, if_pos e2]
        by_cases e3 : keyV a = some k'
        · exact absurd (by rw [e2]; exact e3) e
        · rw [if_neg e3]
      · rw [if_neg e2, if_neg e2]
theorem dput_new {l : List (PV × PV)} {k : Key} (h : dLook l k = none) (v : PV) : dPut l k v = l ++ [(keyP k, v)] := by
  induction l with
  | nil => rfl
  | cons q r ih =>
    obtain ⟨a, b⟩ := q
    have h1 : (if keyV a = some k then some b else dLook r k) = none := h
    by_cases e : keyV a = some k
    · rw [if_pos e] at h1
      cases h1
    · rw [if_neg e] at h1
      show (if keyV a = some k then (a, v) :: r else (a, b) :: dPut r k v) = _
      rw [if_neg e, ih h1]
      rfl
def lastK (k : Str) : List Row → Option PV
  | [] => none
  | r :: rs => match lastK k rs with
    | some v => some v
    | none => if r.1 = k then some (.tup r.2) else none
theorem lastK_app (k : Str) (a b : List Row) : lastK k (a ++ b) = match lastK k b with
    | some v => some v
    | none => lastK k a := by
  induction a with
  | nil => show lastK k b = _; cases lastK k b <;> rfl
  | cons r rs ih =>
    show (match lastK k (rs ++ b) with | some v => some v | none => if r.1 = k then some (PV.tup r.2) else none) = _
    rw [ih]
    cases lastK k b <;> rfl
theorem lastK_rides {k : Str} (h : ¬ (("ride" : Str) = k)) : ∀ l : List (Nat × Int × Int), lastK k (l.map rRide) = none
  | [] => rfl
  | q :: r => by
    show (match lastK k (r.map rRide) with | some v => some v | none => if ("ride" : Str) = k then some (PV.tup (rRide q).2) else none) = _
    rw [lastK_rides h r, if_neg h]
def numsD (rows : List Row) (acc : List (PV × PV)) : List (PV × PV) := rows.foldl (fun acc r => dPut acc (.inr r.1) (.tup r.2)) acc
theorem look_nums (k : Str) : ∀ (rows : List Row) (acc : List (PV × PV)), dLook (numsD rows acc) (.inr k) = match lastK k rows with
    | some v => some v
    | none => dLook acc (.inr k)
  | [], acc => rfl
  | r :: rs, acc => by
    show dLook (numsD rs (dPut acc (.inr r.1) (.tup r.2))) (.inr k) = match (match lastK k rs with | some v => some v | none => if r.1 = k then some (PV.tup r.2) else none) with
      | some v => some v
      | none => dLook acc (.inr k)
    rw [look_nums k rs, dlook_dput]
    cases lastK k rs with
    | some v => rfl
    | none =>
      by_cases e : r.1 = k
      · rw [if_pos (by rw [e]), if_pos e]
      · rw [if_neg fun z => e (Sum.inr.inj z), if_neg e]
theorem cut1 (a : PV) (r : List PV) : cutP (a :: r) (some 1) none = r := by
  unfold cutP HT.sIx
  simp
theorem cut2 (a b : PV) (r : List PV) : cutP (a :: b :: r) (some 2) none = r := by
  unfold cutP HT.sIx
  simp
theorem atI0 (a : PV) (r : List PV) : atI (a :: r) 0 = some a := atI_nat (k := 0) rfl
theorem atI1 (a b : PV) (r : List PV) : atI (a :: b :: r) 1 = some b := atI_nat (k := 1) rfl
theorem dc_nums (h : Hh) (st : Sl) (w : List Nat) : ∀ (rows : List Row) (acc : List (PV × PV)), st.length = 4 → acc.length + rows.length ≤ sizeLine → dcL (.nm 3) bYes (xOp gIxT (xVar 3) (xC (.int 0))) (xSl gSlT (xVar 3) (pSome (xC (.int 1))) pNone) st (rows.map rowP) acc h = .ok (numsD rows acc) h
  | [], acc, _, _ => rfl
  | r :: rs, acc, hst, hz => by
    have hl : acc.length < sizeLine := by simp only [List.length_cons] at hz; omega
    have hp : (dPut acc (.inr r.1) (.tup r.2)).length ≤ acc.length + 1 := by
      clear hz hl
      induction acc with
      | nil => exact Nat.le_refl _
      | cons q t ih =>
        obtain ⟨a, b⟩ := q
        show (if keyV a = some (.inr r.1) then (a, PV.tup r.2) :: t else (a, b) :: dPut t (.inr r.1) (.tup r.2)).length ≤ _
        split
        · simp
        · simp only [List.length_cons]; omega
    have ih := dc_nums h st w rs (dPut acc (.inr r.1) (.tup r.2)) hst (by simp only [List.length_cons] at hz; omega)
    obtain ⟨s0, s1, s2, s3, rfl⟩ : ∃ s0 s1 s2 s3, st = [s0, s1, s2, s3] := by
      match st, hst with
      | [a, b, c, d], _ => exact ⟨a, b, c, d, rfl⟩
    rw [List.map_cons]
    unfold dcL
    have e1 : xOp gIxT (xVar 3) (xC (.int 0)) [s0, s1, s2, some (rowP r)] h = .ok (.str r.1) h := by
      unfold rowP
      simp only [runF, startS, sSeq, sSet, sRet, sRetN, sIf, sDrop, sAsg, sNext, sNever, sAug, asg_nm, asg_2, asg_3, asg_4, xVar, xC, aNil, aCons, xOp, xCall, xMt, xTup, xLst, xIf, xAnd, xOr, xNot, bOf, bTru, bAnd, bOr, bNot, bYes, gI2, gAdd, gSub, gLt, gLe, gGt, gGe, gIxT, gLen, gMin2, gMax2, gIsN, Rs.bind_ok, Rs.bind_exc, Rs.toS_ok, Rs.toS_exc, List.map_cons, List.map_nil, List.length_cons, List.length_nil, List.replicate, List.cons_append, List.nil_append, List.getElem?_cons_zero, List.getElem?_cons_succ, List.getElem?_nil, List.set_cons_zero, List.set_cons_succ, Nat.reduceAdd, Nat.reduceSub, Nat.reduceEqDiff, if_true, if_false, if_pos rfl, reduceIte, decide_true, decide_false, Bool.not_true, Bool.not_false, sizeLine_eq, Nat.reduceLeDiff, eqd_int, xFld, Bool.true_eq_false, Bool.false_eq_true, ite_toS, ite_bind, atI0]
    have e2 : xSl gSlT (xVar 3) (pSome (xC (.int 1))) pNone [s0, s1, s2, some (rowP r)] h = .ok (.tup r.2) h := by
      unfold rowP
      simp only [runF, startS, sSeq, sSet, sRet, sRetN, sIf, sDrop, sAsg, sNext, sNever, sAug, asg_nm, asg_2, asg_3, asg_4, xVar, xC, aNil, aCons, xOp, xCall, xMt, xTup, xLst, xIf, xAnd, xOr, xNot, bOf, bTru, bAnd, bOr, bNot, bYes, gI2, gAdd, gSub, gLt, gLe, gGt, gGe, gIxT, gLen, gMin2, gMax2, gIsN, Rs.bind_ok, Rs.bind_exc, Rs.toS_ok, Rs.toS_exc, List.map_cons, List.map_nil, List.length_cons, List.length_nil, List.replicate, List.cons_append, List.nil_append, List.getElem?_cons_zero, List.getElem?_cons_succ, List.getElem?_nil, List.set_cons_zero, List.set_cons_succ, Nat.reduceAdd, Nat.reduceSub, Nat.reduceEqDiff, if_true, if_false, if_pos rfl, reduceIte, decide_true, decide_false, Bool.not_true, Bool.not_false, sizeLine_eq, Nat.reduceLeDiff, eqd_int, xFld, Bool.true_eq_false, Bool.false_eq_true, ite_toS, ite_bind, xSl, pSome, pNone, gSlT, cut1]
    simp only [Rs.bind_ok, Rs.bind_exc, Rs.toS_ok, Rs.toS_exc, List.map_cons, List.map_nil, List.length_cons, List.length_nil, List.replicate, List.cons_append, List.nil_append, List.getElem?_cons_zero, List.getElem?_cons_succ, List.getElem?_nil, List.set_cons_zero, List.set_cons_succ, Nat.reduceAdd, Nat.reduceSub, Nat.reduceEqDiff, if_true, if_false, if_pos rfl, reduceIte, bYes, asg_nm, e1, e2]
    show (if acc.length < sizeLine then _ else _) = _
    rw [if_pos hl]
    exact ih
end TR

set_option Elab.async false
set_option linter.all false
set_option maxRecDepth 100000
set_option maxHeartbeats 4000000
namespace TR
open PySem PySem.Spec L2
open SX (S)

theorem rideOk : PyData.strOk ("ride" : Str) = true := by decide +kernel
theorem len4 {st : Sl} (h : st.length = 4) : ∃ a b c d, st = [a, b, c, d] := by
  match st, h with
  | [a, b, c, d], _ => exact ⟨a, b, c, d, rfl⟩
abbrev ftP : Eb := bOf (xOp (gEqD false) (xOp gIxT (xVar 3) (xC (.int 0))) (xC (.str "ride")))
abbrev fkP : Ex := xOp gIxT (xVar 3) (xC (.int 1))
abbrev feP : Ex := xSl gSlT (xVar 3) (pSome (xC (.int 2))) pNone
theorem ft_row (h : Hh) (a b c : Option PV) (r : Row) (ho : PyData.strOk r.1 = true) : ftP [a, b, c, some (rowP r)] h = .ok (decide (r.1 = "ride")) h := by
  have he := eqd_str false r.1 "ride" h ho rideOk
  unfold rowP
  simp only [runF, startS, sSeq, sSet, sRet, sRetN, sIf, sDrop, sAsg, sNext, sNever, sAug, asg_nm, asg_2, asg_3, asg_4, xVar, xC, aNil, aCons, xOp, xCall, xMt, xTup, xLst, xIf, xAnd, xOr, xNot, bOf, bTru, bAnd, bOr, bNot, bYes, gI2, gAdd, gSub, gLt, gLe, gGt, gGe, gIxT, gLen, gMin2, gMax2, gIsN, Rs.bind_ok, Rs.bind_exc, Rs.toS_ok, Rs.toS_exc, List.map_cons, List.map_nil, List.length_cons, List.length_nil, List.replicate, List.cons_append, List.nil_append, List.getElem?_cons_zero, List.getElem?_cons_succ, List.getElem?_nil, List.set_cons_zero, List.set_cons_succ, Nat.reduceAdd, Nat.reduceSub, Nat.reduceEqDiff, if_true, if_false, if_pos rfl, reduceIte, decide_true, decide_false, Bool.not_true, Bool.not_false, sizeLine_eq, Nat.reduceLeDiff, eqd_int, xFld, Bool.true_eq_false, Bool.false_eq_true, ite_toS, ite_bind, atI0, he]
theorem dc_skip (h : Hh) {st : Sl} (hst : st.length = 4) (acc : List (PV × PV)) (r : Row) (rs : List PV) (ho : PyData.strOk r.1 = true) (hn : r.1 ≠ "ride") : dcL (.nm 3) ftP fkP feP st (rowP r :: rs) acc h = dcL (.nm 3) ftP fkP feP st rs acc h := by
  obtain ⟨a, b, c, d, rfl⟩ := len4 hst
  have hf := ft_row h a b c r ho
  rw [decide_eq_false hn] at hf
  rw [dcL]
  simp only [Rs.bind_ok, Rs.bind_exc, Rs.toS_ok, Rs.toS_exc, List.map_cons, List.map_nil, List.length_cons, List.length_nil, List.replicate, List.cons_append, List.nil_append, List.getElem?_cons_zero, List.getElem?_cons_succ, List.getElem?_nil, List.set_cons_zero, List.set_cons_succ, Nat.reduceAdd, Nat.reduceSub, Nat.reduceEqDiff, if_true, if_false, if_pos rfl, reduceIte, asg_nm, hf]
theorem dc_skips (h : Hh) {st : Sl} (hst : st.length = 4) (acc : List (PV × PV)) (rs : List PV) : ∀ l : List Row, (∀ r ∈ l, PyData.strOk r.1 = true ∧ r.1 ≠ "ride") → dcL (.nm 3) ftP fkP feP st (l.map rowP ++ rs) acc h = dcL (.nm 3) ftP fkP feP st rs acc h
  | [], _ => rfl
  | r :: l, hl => by
    rw [List.map_cons, List.cons_append, dc_skip h hst acc r _ (hl r List.mem_cons_self).1 (hl r List.mem_cons_self).2]
    exact dc_skips h hst acc rs l fun x hx => hl x (List.mem_cons_of_mem _ hx)
theorem dc_rides (h : Hh) {st : Sl} (hst : st.length = 4) (rs : List PV) : ∀ (l p : List (Nat × Int × Int)), ((p ++ l).map (·.1)).Nodup → p.length + l.length ≤ sizeLine → dcL (.nm 3) ftP fkP feP st (l.map (fun q => rowP (rRide q)) ++ rs) (pD p) h = dcL (.nm 3) ftP fkP feP st rs (pD (p ++ l)) h
  | [], p, _, _ => by rw [List.append_nil]; rfl
  | q :: l, p, hn, hz => by
    have hs := hst
    obtain ⟨a, b, c, d, rfl⟩ := len4 hst
    have hf := ft_row h a b c (rRide q) rideOk
    rw [decide_eq_true (show (rRide q).1 = "ride" from rfl)] at hf
    have hk : fkP [a, b, c, some (rowP (rRide q))] h = .ok (.str (ch q.1)) h := by
      unfold rowP rRide
      simp only [runF, startS, sSeq, sSet, sRet, sRetN, sIf, sDrop, sAsg, sNext, sNever, sAug, asg_nm, asg_2, asg_3, asg_4, xVar, xC, aNil, aCons, xOp, xCall, xMt, xTup, xLst, xIf, xAnd, xOr, xNot, bOf, bTru, bAnd, bOr, bNot, bYes, gI2, gAdd, gSub, gLt, gLe, gGt, gGe, gIxT, gLen, gMin2, gMax2, gIsN, Rs.bind_ok, Rs.bind_exc, Rs.toS_ok, Rs.toS_exc, List.map_cons, List.map_nil, List.length_cons, List.length_nil, List.replicate, List.cons_append, List.nil_append, List.getElem?_cons_zero, List.getElem?_cons_succ, List.getElem?_nil, List.set_cons_zero, List.set_cons_succ, Nat.reduceAdd, Nat.reduceSub, Nat.reduceEqDiff, if_true, if_false, if_pos rfl, reduceIte, decide_true, decide_false, Bool.not_true, Bool.not_false, sizeLine_eq, Nat.reduceLeDiff, eqd_int, xFld, Bool.true_eq_false, Bool.false_eq_true, ite_toS, ite_bind, atI1]
    have he : feP [a, b, c, some (rowP (rRide q))] h = .ok (.tup [.int q.2.1, .int q.2.2]) h := by
      unfold rowP rRide
      simp only [runF, startS, sSeq, sSet, sRet, sRetN, sIf, sDrop, sAsg, sNext, sNever, sAug, asg_nm, asg_2, asg_3, asg_4, xVar, xC, aNil, aCons, xOp, xCall, xMt, xTup, xLst, xIf, xAnd, xOr, xNot, bOf, bTru, bAnd, bOr, bNot, bYes, gI2, gAdd, gSub, gLt, gLe, gGt, gGe, gIxT, gLen, gMin2, gMax2, gIsN, Rs.bind_ok, Rs.bind_exc, Rs.toS_ok, Rs.toS_exc, List.map_cons, List.map_nil, List.length_cons, List.length_nil, List.replicate, List.cons_append, List.nil_append, List.getElem?_cons_zero, List.getElem?_cons_succ, List.getElem?_nil, List.set_cons_zero, List.set_cons_succ, Nat.reduceAdd, Nat.reduceSub, Nat.reduceEqDiff, if_true, if_false, if_pos rfl, reduceIte, decide_true, decide_false, Bool.not_true, Bool.not_false, sizeLine_eq, Nat.reduceLeDiff, eqd_int, xFld, Bool.true_eq_false, Bool.false_eq_true, ite_toS, ite_bind, xSl, pSome, pNone, gSlT, cut2]
    have hnew : dLook (pD p) (.inr (ch q.1)) = none := by
      rw [dlook_pD]
      have : p.lookup q.1 = none := by
        refine List.lookup_eq_none_iff.mpr fun x hx => ?_
        rw [List.map_append] at hn
        have := List.nodup_append.mp hn
        exact bne_iff_ne.mpr fun z => this.2.2 x.1 (List.mem_map_of_mem hx) q.1 (List.mem_map_of_mem List.mem_cons_self) z.symm
      rw [this]
      rfl
    have hl : (pD p).length < sizeLine := by
      unfold pD
      rw [List.length_map]
      simp only [List.length_cons] at hz
      omega
    rw [List.map_cons, List.cons_append, dcL]
    simp only [Rs.bind_ok, Rs.bind_exc, Rs.toS_ok, Rs.toS_exc, List.map_cons, List.map_nil, List.length_cons, List.length_nil, List.replicate, List.cons_append, List.nil_append, List.getElem?_cons_zero, List.getElem?_cons_succ, List.getElem?_nil, List.set_cons_zero, List.set_cons_succ, Nat.reduceAdd, Nat.reduceSub, Nat.reduceEqDiff, if_true, if_false, if_pos rfl, reduceIte, asg_nm, hf, hk, he]
    show (if (pD p).length < sizeLine then dcL _ _ _ _ _ _ (dPut (pD p) (.inr (ch q.1)) (.tup [.int q.2.1, .int q.2.2])) h else _) = _
    rw [if_pos hl, dput_new hnew]
    have e2 : pD p ++ [(keyP (.inr (ch q.1)), PV.tup [.int q.2.1, .int q.2.2])] = pD (p ++ [q]) := by
      unfold pD
      rw [List.map_append]
      rfl
    rw [e2, dc_rides h hs rs l (p ++ [q]) (by rw [List.append_assoc]; exact hn) (by simp only [List.length_append, List.length_cons, List.length_nil] at hz ⊢; omega), List.append_assoc]
    rfl
structure SD.Fit (d : SD) : Prop where
  nd : (d.rides.map (·.1)).Nodup
  ok : ∀ q ∈ d.rides, PyData.strOk (ch q.1) = true
  rz : d.rides.length ≤ 100
  pz : ∀ p, d.peak = some p → p.length ≤ 100
theorem SD.lets_ok {d : SD} (f : d.Fit) : ∀ x ∈ d.sys.lets, PyData.strOk (ch x) = true := by
  intro x hx
  rcases List.mem_append.mp hx with hx | hx
  · obtain ⟨q, hq, rfl⟩ := List.mem_map.mp hx
    exact f.ok q hq
  · rw [List.mem_singleton.mp hx]
    exact dotOk
theorem words_ok : ∀ w ∈ (["slots", "peak", "transfer", "cap", "bonus"] : List Str), PyData.strOk w = true ∧ w ≠ "ride" := by decide +kernel
def SD.rHead (d : SD) : List Row := ("slots", [.int d.slots]) :: rPeak d.peak
theorem prices_run (h : Hh) {d : SD} (f : d.Fit) {st : Sl} (hst : st.length = 4) : dcL (.nm 3) ftP fkP feP st (d.rowsW.map rowP) [] h = .ok (pD d.rides) h := by
  have e : d.rowsW.map rowP = ((d.rHead).map rowP) ++ (d.rides.map (fun q => rowP (rRide q)) ++ (d.tail.map rowP ++ [])) := by
    unfold SD.rowsW SD.rHead
    simp only [List.map_cons, List.map_append, List.map_map, List.append_nil, List.cons_append]
    rfl
  have h1 : ∀ r ∈ d.rHead, PyData.strOk r.1 = true ∧ r.1 ≠ "ride" := by
    intro r hr
    rcases List.mem_cons.mp hr with rfl | hr
    · exact words_ok _ (by simp)
    · unfold rPeak at hr
      split at hr
      · cases hr
      · rw [List.mem_singleton.mp hr]
        exact words_ok "peak" (by simp)
  have h2 : ∀ r ∈ d.tail, PyData.strOk r.1 = true ∧ r.1 ≠ "ride" := by
    intro r hr
    unfold SD.tail at hr
    rcases List.mem_append.mp hr with hr | hr
    · unfold rTransfer at hr
      split at hr
      · cases hr
      · rw [List.mem_singleton.mp hr]
        exact words_ok "transfer" (by simp)
    · rcases List.mem_append.mp hr with hr | hr
      · unfold rOne at hr
        split at hr
        · cases hr
        · rw [List.mem_singleton.mp hr]
          exact words_ok "cap" (by simp)
      · unfold rOne at hr
        split at hr
        · cases hr
        · rw [List.mem_singleton.mp hr]
          exact words_ok "bonus" (by simp)
  rw [e, dc_skips h hst [] _ _ h1]
  have hp : ([] : List (PV × PV)) = pD [] := rfl
  rw [hp, dc_rides h hst _ d.rides [] (by rw [List.nil_append]; exact f.nd) (by rw [sizeLine_eq]; have := f.rz; simp only [List.length_nil]; omega), List.nil_append, dc_skips h hst _ _ _ h2]
  rfl
theorem rows_len {d : SD} (f : d.Fit) : d.rowsW.length ≤ 105 := by
  have := f.rz
  unfold SD.rowsW SD.tail rPeak rTransfer rOne
  simp only [List.length_cons, List.length_append, List.length_map]
  cases d.peak <;> cases d.transfer <;> cases d.cap <;> cases d.bonus <;> simp only [List.length_cons, List.length_nil] <;> omega
theorem strs_map : ∀ l : List Nat, strsOf (l.map fun c => .str (ch c)) = some (l.map ch)
  | [] => rfl
  | c :: r => by
    show (match strsOf (r.map fun c => .str (ch c)) with | some ns => some (ch c :: ns) | none => none) = _
    rw [strs_map r]
    rfl
theorem joinL_nil : ∀ l : List Nat, TL.joinL [] (l.map fun c => [c]) = l
  | [] => rfl
  | [c] => rfl
  | c :: d :: r => by
    show [c] ++ ([] ++ TL.joinL [] ((d :: r).map fun c => [c])) = _
    rw [joinL_nil (d :: r)]
    rfl
theorem join_chs (l : List Nat) : Txt.join ("" : Str) (l.map ch) = S l := by
  have e1 : ("" : Str) = S [] := by decide +kernel
  have e2 : l.map ch = (l.map fun c => [c]).map S := by rw [List.map_map]; rfl
  rw [e1, e2, SX.join_S, joinL_nil]
theorem nums_look {d : SD} (k : Str) (hk : ¬ (("ride" : Str) = k)) : dLook (numsD d.rowsW []) (.inr k) = match lastK k d.tail with
    | some v => some v
    | none => lastK k d.rHead := by
  have e : d.rowsW = d.rHead ++ (d.rides.map rRide ++ d.tail) := rfl
  rw [look_nums, e, lastK_app, lastK_app, lastK_rides hk]
  cases lastK k d.tail with
  | some v => rfl
  | none =>
    dsimp only
    cases lastK k d.rHead <;> rfl
theorem not_ride : ¬ (("ride" : Str) = "slots") ∧ ¬ (("ride" : Str) = "peak") ∧ ¬ (("ride" : Str) = "transfer") ∧ ¬ (("ride" : Str) = "cap") ∧ ¬ (("ride" : Str) = "bonus") := by decide +kernel
theorem look_slots (d : SD) : dLook (numsD d.rowsW []) (.inr "slots") = some (.tup [.int d.slots]) := by
  rw [nums_look _ not_ride.1]
  unfold SD.tail SD.rHead rPeak rTransfer rOne
  cases d.peak <;> cases d.transfer <;> cases d.cap <;> cases d.bonus <;> rfl
theorem look_peak (d : SD) : dLook (numsD d.rowsW []) (.inr "peak") = d.peak.map fun p => .tup (p.map .int) := by
  rw [nums_look _ not_ride.2.1]
  unfold SD.tail SD.rHead rPeak rTransfer rOne
  cases d.peak <;> cases d.transfer <;> cases d.cap <;> cases d.bonus <;> rfl
theorem look_transfer (d : SD) : dLook (numsD d.rowsW []) (.inr "transfer") = d.transfer.map fun q => .tup [.int q.1, .int q.2] := by
  rw [nums_look _ not_ride.2.2.1]
  unfold SD.tail SD.rHead rPeak rTransfer rOne
  cases d.peak <;> cases d.transfer <;> cases d.cap <;> cases d.bonus <;> rfl
theorem look_cap (d : SD) : dLook (numsD d.rowsW []) (.inr "cap") = d.cap.map fun k => .tup [.int k] := by
  rw [nums_look _ not_ride.2.2.2.1]
  unfold SD.tail SD.rHead rPeak rTransfer rOne
  cases d.peak <;> cases d.transfer <;> cases d.cap <;> cases d.bonus <;> rfl
theorem look_bonus (d : SD) : dLook (numsD d.rowsW []) (.inr "bonus") = d.bonus.map fun k => .tup [.int k] := by
  rw [nums_look _ not_ride.2.2.2.2]
  unfold SD.tail SD.rHead rPeak rTransfer rOne
  cases d.peak <;> cases d.transfer <;> cases d.cap <;> cases d.bonus <;> rfl
theorem fld_set {h : Hh} {fs : List (Str × PV)} {f : Str} {fv : Ex} {v : PV} {a b c : Option PV} (hv : fv [some (.ref h.length), a, b, c] (h ++ [.ins 3 fs]) = .ok v (h ++ [.ins 3 fs])) (hl : fs.length < 1000) :
    sFldS 3 f (xVar 0) fv [some (.ref h.length), a, b, c] (h ++ [.ins 3 fs]) = .nx [some (.ref h.length), a, b, c] (h ++ [.ins 3 (putP f v fs)]) := by
  have hi : insAt 3 (.ref h.length) (h ++ [.ins 3 fs]) = some (h.length, fs) := by
    unfold insAt
    simp
  have hs : (h ++ [Ob.ins 3 fs]).set h.length (.ins 3 (putP f v fs)) = h ++ [.ins 3 (putP f v fs)] := by simp
  unfold sFldS
  simp only [Rs.bind_ok, Rs.bind_exc, Rs.toS_ok, Rs.toS_exc, List.map_cons, List.map_nil, List.length_cons, List.length_nil, List.replicate, List.cons_append, List.nil_append, List.getElem?_cons_zero, List.getElem?_cons_succ, List.getElem?_nil, List.set_cons_zero, List.set_cons_succ, Nat.reduceAdd, Nat.reduceSub, Nat.reduceEqDiff, if_true, if_false, if_pos rfl, reduceIte, hv, xVar, hi, hl, hs]
end TR

set_option Elab.async false
set_option linter.all false
set_option maxRecDepth 100000
set_option maxHeartbeats 4000000
namespace TR
open PySem PySem.Spec L2
open SX (S)

theorem copied_int (n : Nat) (k : Int) (h : Hh) : r_copied (n + 1) [.int k] h = .ok (.int k) h := by
  unfold r_copied
  have h1 : gIsi [.int k, .ty "list"] h = .ok (.bl false) h := rfl
  have h2 : gIsi [.int k, .ty "tuple"] h = .ok (.bl false) h := rfl
  have h3 : gIsi [.int k, .ty "dict"] h = .ok (.bl false) h := rfl
  simp only [runF, startS, sSeq, sSet, sRet, sRetN, sIf, sDrop, sAsg, sNext, sNever, sAug, asg_nm, asg_2, asg_3, asg_4, xVar, xC, aNil, aCons, xOp, xCall, xMt, xTup, xLst, xIf, xAnd, xOr, xNot, bOf, bTru, bAnd, bOr, bNot, bYes, gI2, gAdd, gSub, gLt, gLe, gGt, gGe, gIxT, gLen, gMin2, gMax2, gIsN, Rs.bind_ok, Rs.bind_exc, Rs.toS_ok, Rs.toS_exc, List.map_cons, List.map_nil, List.length_cons, List.length_nil, List.replicate, List.cons_append, List.nil_append, List.getElem?_cons_zero, List.getElem?_cons_succ, List.getElem?_nil, List.set_cons_zero, List.set_cons_succ, Nat.reduceAdd, Nat.reduceSub, Nat.reduceEqDiff, if_true, if_false, if_pos rfl, reduceIte, decide_true, decide_false, Bool.not_true, Bool.not_false, sizeLine_eq, Nat.reduceLeDiff, eqd_int, xFld, Bool.true_eq_false, Bool.false_eq_true, ite_toS, ite_bind, h1, h2, h3]
theorem lt1k {n : Nat} (k : Nat) (e : n = k) (h : k < 1000) : n < 1000 := e ▸ h
def iN : Ex := xDc false (iLst (xVar 1)) (.nm 3) (bYes) (xOp gIxT (xVar 3) (xC (.int 0))) (xSl gSlT (xVar 3) (pSome (xC (.int 1))) (pNone)) [3]
def iP : Ex := xDc false (iLst (xVar 1)) (.nm 3) ftP fkP feP [3]
def iLt : Ex := xOp gCatS (xBM tStr gJoin (xC (.str "")) (aCons (xCall gListD (aCons (xFld 3 "prices" (xVar 0)) (aNil))) (aNil))) (xC (.str "."))
def iCap : Ex := xIf (bOf (xOp (gDIn false) (xC (.str "cap")) (xVar 2))) (xOp gIxT (xOp gDGet (xVar 2) (xC (.str "cap"))) (xC (.int 0))) (xC .non)
def iBon : Ex := xIf (bOf (xOp (gDIn false) (xC (.str "bonus")) (xVar 2))) (xOp gIxT (xOp gDGet (xVar 2) (xC (.str "bonus"))) (xC (.int 0))) (xC .non)
def iSl : Ex := xOp gIxT (xOp gDGet (xVar 2) (xC (.str "slots"))) (xC (.int 0))
def iPk : Ex := xDGet2 (xVar 2) (xC (.str "peak")) (xTup (aNil))
def iTr : Ex := xDGet1 (xVar 2) (xC (.str "transfer"))
def iRw : Ex := xCall gTupO (aCons (xVar 1) (aNil))
def iEnd : Sx := sIf (bOf (xOp gGt (xCall gLen (aCons (xCall r_reached (aCons (xVar 0) (aCons (xC (.int 100)) (aNil)))) (aNil))) (xC (.int 100)))) (sRaise 1 1 (r_copied 6) [("bound", 1)] (aCons (xC (.int 100)) (aNil))) (sNext)
theorem init_def : r_System___init__ = runF 2 4 (sSeq (sFldS 3 "rows" (xVar 0) iRw) (sSeq (sSet 2 iN) (sSeq (sFldS 3 "slots" (xVar 0) iSl) (sSeq (sFldS 3 "peak_slots" (xVar 0) iPk) (sSeq (sFldS 3 "prices" (xVar 0) iP) (sSeq (sFldS 3 "letters" (xVar 0) iLt) (sSeq (sFldS 3 "transfer" (xVar 0) iTr) (sSeq (sFldS 3 "cap" (xVar 0) iCap) (sSeq (sFldS 3 "bonus" (xVar 0) iBon) iEnd))))))))) := rfl
section
variable {hh : Hh} {d : SD} {a b : Option PV}
theorem v_rw (a c e : Option PV) : iRw [a, some (.lst (d.rowsW.map rowP)), c, e] hh = .ok (.tup (d.rowsW.map rowP)) hh := by
  unfold iRw
  simp only [runF, startS, sSeq, sSet, sRet, sRetN, sIf, sDrop, sAsg, sNext, sNever, sAug, asg_nm, asg_2, asg_3, asg_4, xVar, xC, aNil, aCons, xOp, xCall, xMt, xTup, xLst, xIf, xAnd, xOr, xNot, bOf, bTru, bAnd, bOr, bNot, bYes, gI2, gAdd, gSub, gLt, gLe, gGt, gGe, gIxT, gLen, gMin2, gMax2, gIsN, Rs.bind_ok, Rs.bind_exc, Rs.toS_ok, Rs.toS_exc, List.map_cons, List.map_nil, List.length_cons, List.length_nil, List.replicate, List.cons_append, List.nil_append, List.getElem?_cons_zero, List.getElem?_cons_succ, List.getElem?_nil, List.set_cons_zero, List.set_cons_succ, Nat.reduceAdd, Nat.reduceSub, Nat.reduceEqDiff, if_true, if_false, if_pos rfl, reduceIte, decide_true, decide_false, Bool.not_true, Bool.not_false, sizeLine_eq, Nat.reduceLeDiff, eqd_int, xFld, Bool.true_eq_false, Bool.false_eq_true, ite_toS, ite_bind, gTupO, asL]
theorem v_nums (f : d.Fit) (a c e : Option PV) : iN [a, some (.lst (d.rowsW.map rowP)), c, e] hh = .ok (.dct (numsD d.rowsW [])) hh := by
  have h1 := dc_nums hh [a, some (.lst (d.rowsW.map rowP)), c, none] [3] d.rowsW [] rfl (by have := rows_len f; rw [sizeLine_eq]; simp only [List.length_nil]; omega)
  unfold iN xDc
  simp only [Rs.bind_ok, Rs.bind_exc, Rs.toS_ok, Rs.toS_exc, List.map_cons, List.map_nil, List.length_cons, List.length_nil, List.replicate, List.cons_append, List.nil_append, List.getElem?_cons_zero, List.getElem?_cons_succ, List.getElem?_nil, List.set_cons_zero, List.set_cons_succ, Nat.reduceAdd, Nat.reduceSub, Nat.reduceEqDiff, if_true, if_false, if_pos rfl, reduceIte, iLst, xVar, wipeS, h1, endD, Bool.false_eq_true]
theorem v_pr (f : d.Fit) (a c e : Option PV) : iP [a, some (.lst (d.rowsW.map rowP)), c, e] hh = .ok (.dct (pD d.rides)) hh := by
  have h1 := prices_run hh f (st := [a, some (.lst (d.rowsW.map rowP)), c, none]) rfl
  unfold iP xDc
  simp only [Rs.bind_ok, Rs.bind_exc, Rs.toS_ok, Rs.toS_exc, List.map_cons, List.map_nil, List.length_cons, List.length_nil, List.replicate, List.cons_append, List.nil_append, List.getElem?_cons_zero, List.getElem?_cons_succ, List.getElem?_nil, List.set_cons_zero, List.set_cons_succ, Nat.reduceAdd, Nat.reduceSub, Nat.reduceEqDiff, if_true, if_false, if_pos rfl, reduceIte, iLst, xVar, wipeS, h1, endD, Bool.false_eq_true]
abbrev stN (d : SD) (x : PV) (e : Option PV) : Sl := [some x, some (.lst (d.rowsW.map rowP)), some (.dct (numsD d.rowsW [])), e]
theorem v_sl (x : PV) (e : Option PV) : iSl (stN d x e) hh = .ok (.int d.slots) hh := by
  have h1 : gDGet (.dct (numsD d.rowsW [])) (.str "slots") hh = .ok (.tup [.int d.slots]) hh := by
    show (match dLook (numsD d.rowsW []) (.inr "slots") with | some v => Rs.ok v hh | none => .bad) = _
    rw [look_slots]
  unfold iSl
  simp only [runF, startS, sSeq, sSet, sRet, sRetN, sIf, sDrop, sAsg, sNext, sNever, sAug, asg_nm, asg_2, asg_3, asg_4, xVar, xC, aNil, aCons, xOp, xCall, xMt, xTup, xLst, xIf, xAnd, xOr, xNot, bOf, bTru, bAnd, bOr, bNot, bYes, gI2, gAdd, gSub, gLt, gLe, gGt, gGe, gIxT, gLen, gMin2, gMax2, gIsN, Rs.bind_ok, Rs.bind_exc, Rs.toS_ok, Rs.toS_exc, List.map_cons, List.map_nil, List.length_cons, List.length_nil, List.replicate, List.cons_append, List.nil_append, List.getElem?_cons_zero, List.getElem?_cons_succ, List.getElem?_nil, List.set_cons_zero, List.set_cons_succ, Nat.reduceAdd, Nat.reduceSub, Nat.reduceEqDiff, if_true, if_false, if_pos rfl, reduceIte, decide_true, decide_false, Bool.not_true, Bool.not_false, sizeLine_eq, Nat.reduceLeDiff, eqd_int, xFld, Bool.true_eq_false, Bool.false_eq_true, ite_toS, ite_bind, h1, atI0]
theorem v_pk (x : PV) (e : Option PV) : iPk (stN d x e) hh = .ok (.tup ((d.peak.getD []).map .int)) hh := by
  unfold iPk xDGet2
  simp only [runF, startS, sSeq, sSet, sRet, sRetN, sIf, sDrop, sAsg, sNext, sNever, sAug, asg_nm, asg_2, asg_3, asg_4, xVar, xC, aNil, aCons, xOp, xCall, xMt, xTup, xLst, xIf, xAnd, xOr, xNot, bOf, bTru, bAnd, bOr, bNot, bYes, gI2, gAdd, gSub, gLt, gLe, gGt, gGe, gIxT, gLen, gMin2, gMax2, gIsN, Rs.bind_ok, Rs.bind_exc, Rs.toS_ok, Rs.toS_exc, List.map_cons, List.map_nil, List.length_cons, List.length_nil, List.replicate, List.cons_append, List.nil_append, List.getElem?_cons_zero, List.getElem?_cons_succ, List.getElem?_nil, List.set_cons_zero, List.set_cons_succ, Nat.reduceAdd, Nat.reduceSub, Nat.reduceEqDiff, if_true, if_false, if_pos rfl, reduceIte, decide_true, decide_false, Bool.not_true, Bool.not_false, sizeLine_eq, Nat.reduceLeDiff, eqd_int, xFld, Bool.true_eq_false, Bool.false_eq_true, ite_toS, ite_bind, asD, Option.isSome_some, keyV, look_peak]
  cases d.peak <;> rfl
theorem v_tr (x : PV) (e : Option PV) : iTr (stN d x e) hh = .ok (oT d.transfer) hh := by
  unfold iTr xDGet1
  simp only [runF, startS, sSeq, sSet, sRet, sRetN, sIf, sDrop, sAsg, sNext, sNever, sAug, asg_nm, asg_2, asg_3, asg_4, xVar, xC, aNil, aCons, xOp, xCall, xMt, xTup, xLst, xIf, xAnd, xOr, xNot, bOf, bTru, bAnd, bOr, bNot, bYes, gI2, gAdd, gSub, gLt, gLe, gGt, gGe, gIxT, gLen, gMin2, gMax2, gIsN, Rs.bind_ok, Rs.bind_exc, Rs.toS_ok, Rs.toS_exc, List.map_cons, List.map_nil, List.length_cons, List.length_nil, List.replicate, List.cons_append, List.nil_append, List.getElem?_cons_zero, List.getElem?_cons_succ, List.getElem?_nil, List.set_cons_zero, List.set_cons_succ, Nat.reduceAdd, Nat.reduceSub, Nat.reduceEqDiff, if_true, if_false, if_pos rfl, reduceIte, decide_true, decide_false, Bool.not_true, Bool.not_false, sizeLine_eq, Nat.reduceLeDiff, eqd_int, xFld, Bool.true_eq_false, Bool.false_eq_true, ite_toS, ite_bind, asD, Option.isSome_some, keyV, look_transfer]
  cases d.transfer <;> rfl
theorem v_cap (x : PV) (e : Option PV) : iCap (stN d x e) hh = .ok (oI d.cap) hh := by
  unfold iCap
  cases hc : d.cap with
  | none =>
    have h1 : gDIn false (.str "cap") (.dct (numsD d.rowsW [])) hh = .ok (.bl false) hh := by
      show Rs.ok (PV.bl (dLook (numsD d.rowsW []) (.inr "cap")).isSome) hh = _
      rw [look_cap, hc]
      rfl
    simp only [runF, startS, sSeq, sSet, sRet, sRetN, sIf, sDrop, sAsg, sNext, sNever, sAug, asg_nm, asg_2, asg_3, asg_4, xVar, xC, aNil, aCons, xOp, xCall, xMt, xTup, xLst, xIf, xAnd, xOr, xNot, bOf, bTru, bAnd, bOr, bNot, bYes, gI2, gAdd, gSub, gLt, gLe, gGt, gGe, gIxT, gLen, gMin2, gMax2, gIsN, Rs.bind_ok, Rs.bind_exc, Rs.toS_ok, Rs.toS_exc, List.map_cons, List.map_nil, List.length_cons, List.length_nil, List.replicate, List.cons_append, List.nil_append, List.getElem?_cons_zero, List.getElem?_cons_succ, List.getElem?_nil, List.set_cons_zero, List.set_cons_succ, Nat.reduceAdd, Nat.reduceSub, Nat.reduceEqDiff, if_true, if_false, if_pos rfl, reduceIte, decide_true, decide_false, Bool.not_true, Bool.not_false, sizeLine_eq, Nat.reduceLeDiff, eqd_int, xFld, Bool.true_eq_false, Bool.false_eq_true, ite_toS, ite_bind, h1]
    rfl
  | some k =>
    have h1 : gDIn false (.str "cap") (.dct (numsD d.rowsW [])) hh = .ok (.bl true) hh := by
      show Rs.ok (PV.bl (dLook (numsD d.rowsW []) (.inr "cap")).isSome) hh = _
      rw [look_cap, hc]
      rfl
    have h2 : gDGet (.dct (numsD d.rowsW [])) (.str "cap") hh = .ok (.tup [.int k]) hh := by
      show (match dLook (numsD d.rowsW []) (.inr "cap") with | some v => Rs.ok v hh | none => .bad) = _
      rw [look_cap, hc]
      rfl
    simp only [runF, startS, sSeq, sSet, sRet, sRetN, sIf, sDrop, sAsg, sNext, sNever, sAug, asg_nm, asg_2, asg_3, asg_4, xVar, xC, aNil, aCons, xOp, xCall, xMt, xTup, xLst, xIf, xAnd, xOr, xNot, bOf, bTru, bAnd, bOr, bNot, bYes, gI2, gAdd, gSub, gLt, gLe, gGt, gGe, gIxT, gLen, gMin2, gMax2, gIsN, Rs.bind_ok, Rs.bind_exc, Rs.toS_ok, Rs.toS_exc, List.map_cons, List.map_nil, List.length_cons, List.length_nil, List.replicate, List.cons_append, List.nil_append, List.getElem?_cons_zero, List.getElem?_cons_succ, List.getElem?_nil, List.set_cons_zero, List.set_cons_succ, Nat.reduceAdd, Nat.reduceSub, Nat.reduceEqDiff, if_true, if_false, if_pos rfl, reduceIte, decide_true, decide_false, Bool.not_true, Bool.not_false, sizeLine_eq, Nat.reduceLeDiff, eqd_int, xFld, Bool.true_eq_false, Bool.false_eq_true, ite_toS, ite_bind, h1, h2, atI0]
    rfl
theorem v_bon (x : PV) (e : Option PV) : iBon (stN d x e) hh = .ok (oI d.bonus) hh := by
  unfold iBon
  cases hc : d.bonus with
  | none =>
    have h1 : gDIn false (.str "bonus") (.dct (numsD d.rowsW [])) hh = .ok (.bl false) hh := by
      show Rs.ok (PV.bl (dLook (numsD d.rowsW []) (.inr "bonus")).isSome) hh = _
      rw [look_bonus, hc]
      rfl
    simp only [runF, startS, sSeq, sSet, sRet, sRetN, sIf, sDrop, sAsg, sNext, sNever, sAug, asg_nm, asg_2, asg_3, asg_4, xVar, xC, aNil, aCons, xOp, xCall, xMt, xTup, xLst, xIf, xAnd, xOr, xNot, bOf, bTru, bAnd, bOr, bNot, bYes, gI2, gAdd, gSub, gLt, gLe, gGt, gGe, gIxT, gLen, gMin2, gMax2, gIsN, Rs.bind_ok, Rs.bind_exc, Rs.toS_ok, Rs.toS_exc, List.map_cons, List.map_nil, List.length_cons, List.length_nil, List.replicate, List.cons_append, List.nil_append, List.getElem?_cons_zero, List.getElem?_cons_succ, List.getElem?_nil, List.set_cons_zero, List.set_cons_succ, Nat.reduceAdd, Nat.reduceSub, Nat.reduceEqDiff, if_true, if_false, if_pos rfl, reduceIte, decide_true, decide_false, Bool.not_true, Bool.not_false, sizeLine_eq, Nat.reduceLeDiff, eqd_int, xFld, Bool.true_eq_false, Bool.false_eq_true, ite_toS, ite_bind, h1]
    rfl
  | some k =>
    have h1 : gDIn false (.str "bonus") (.dct (numsD d.rowsW [])) hh = .ok (.bl true) hh := by
      show Rs.ok (PV.bl (dLook (numsD d.rowsW []) (.inr "bonus")).isSome) hh = _
      rw [look_bonus, hc]
      rfl
    have h2 : gDGet (.dct (numsD d.rowsW [])) (.str "bonus") hh = .ok (.tup [.int k]) hh := by
      show (match dLook (numsD d.rowsW []) (.inr "bonus") with | some v => Rs.ok v hh | none => .bad) = _
      rw [look_bonus, hc]
      rfl
    simp only [runF, startS, sSeq, sSet, sRet, sRetN, sIf, sDrop, sAsg, sNext, sNever, sAug, asg_nm, asg_2, asg_3, asg_4, xVar, xC, aNil, aCons, xOp, xCall, xMt, xTup, xLst, xIf, xAnd, xOr, xNot, bOf, bTru, bAnd, bOr, bNot, bYes, gI2, gAdd, gSub, gLt, gLe, gGt, gGe, gIxT, gLen, gMin2, gMax2, gIsN, Rs.bind_ok, Rs.bind_exc, Rs.toS_ok, Rs.toS_exc, List.map_cons, List.map_nil, List.length_cons, List.length_nil, List.replicate, List.cons_append, List.nil_append, List.getElem?_cons_zero, List.getElem?_cons_succ, List.getElem?_nil, List.set_cons_zero, List.set_cons_succ, Nat.reduceAdd, Nat.reduceSub, Nat.reduceEqDiff, if_true, if_false, if_pos rfl, reduceIte, decide_true, decide_false, Bool.not_true, Bool.not_false, sizeLine_eq, Nat.reduceLeDiff, eqd_int, xFld, Bool.true_eq_false, Bool.false_eq_true, ite_toS, ite_bind, h1, h2, atI0]
    rfl
theorem v_let (f : d.Fit) {h : Hh} {fs : List (Str × PV)} (hf : fs.lookup ("prices" : Str) = some (.dct (pD d.rides))) (a c e : Option PV) : iLt [some (.ref h.length), a, c, e] (h ++ [.ins 3 fs]) = .ok (.str ⟨d.sys.lets.toArray⟩) (h ++ [.ins 3 fs]) := by
  have hi : insAt 3 (.ref h.length) (h ++ [.ins 3 fs]) = some (h.length, fs) := by
    unfold insAt
    simp
  have hk : (pD d.rides).map (·.1) = (d.rides.map (·.1)).map fun c => PV.str (ch c) := by
    unfold pD
    rw [List.map_map, List.map_map]
    rfl
  have h1 : gListD [.dct (pD d.rides)] (h ++ [.ins 3 fs]) = .ok (.lst ((d.rides.map (·.1)).map fun c => PV.str (ch c))) (h ++ [.ins 3 fs]) := by
    show Rs.ok (PV.lst ((pD d.rides).map (·.1))) _ = _
    rw [hk]
  have h2 : gJoin (.str "") [.lst ((d.rides.map (·.1)).map fun c => PV.str (ch c))] (h ++ [.ins 3 fs]) = .ok (.str (S (d.rides.map (·.1)))) (h ++ [.ins 3 fs]) := by
    unfold gJoin strList
    show (match strsOf ((d.rides.map (·.1)).map fun c => PV.str (ch c)) with | some ys => if (ys.map (fun y : Str => y.length)).sum + ys.length * ("" : Str).length ≤ 16777216 then Rs.ok (PV.str (Txt.join "" ys)) _ else .bad | none => .bad) = _
    rw [strs_map]
    dsimp only
    have hl : ("" : Str).length = 0 := by decide +kernel
    have hs : (((d.rides.map (·.1)).map ch).map (fun y : Str => y.length)).sum = d.rides.length := by
      rw [List.map_map]
      generalize d.rides = l
      induction l with
      | nil => rfl
      | cons q r ih =>
        simp only [List.map_cons, List.sum_cons, ih, List.length_cons, Function.comp]
        show (ch q.1).cps.size + r.length = _
        show 1 + r.length = _
        omega
    rw [hl, hs, if_pos (by have := f.rz; omega), join_chs]
  have h3 : gCatS (.str (S (d.rides.map (·.1)))) (.str ".") (h ++ [.ins 3 fs]) = .ok (.str ⟨d.sys.lets.toArray⟩) (h ++ [.ins 3 fs]) := by
    have e1 : ("." : Str) = S [46] := by decide +kernel
    rw [e1]
    show (if (S (d.rides.map (·.1))).length + (S [46]).length ≤ sizeLine then Rs.ok (PV.str (S (d.rides.map (·.1)) ++ S [46])) _ else .bad) = _
    rw [SX.S_cat, SX.S_len, SX.S_len, if_pos (by have := f.rz; rw [sizeLine_eq, List.length_map]; simp only [List.length_cons, List.length_nil]; omega)]
    rfl
  unfold iLt
  simp only [runF, startS, sSeq, sSet, sRet, sRetN, sIf, sDrop, sAsg, sNext, sNever, sAug, asg_nm, asg_2, asg_3, asg_4, xVar, xC, aNil, aCons, xOp, xCall, xMt, xTup, xLst, xIf, xAnd, xOr, xNot, bOf, bTru, bAnd, bOr, bNot, bYes, gI2, gAdd, gSub, gLt, gLe, gGt, gGe, gIxT, gLen, gMin2, gMax2, gIsN, Rs.bind_ok, Rs.bind_exc, Rs.toS_ok, Rs.toS_exc, List.map_cons, List.map_nil, List.length_cons, List.length_nil, List.replicate, List.cons_append, List.nil_append, List.getElem?_cons_zero, List.getElem?_cons_succ, List.getElem?_nil, List.set_cons_zero, List.set_cons_succ, Nat.reduceAdd, Nat.reduceSub, Nat.reduceEqDiff, if_true, if_false, if_pos rfl, reduceIte, decide_true, decide_false, Bool.not_true, Bool.not_false, sizeLine_eq, Nat.reduceLeDiff, eqd_int, xFld, Bool.true_eq_false, Bool.false_eq_true, ite_toS, ite_bind, hi, hf, h1, xBM, tStr, h2, h3]
theorem run_init (f : d.Fit) (h : Hh) {g : List Cd} {q : Nat} (hr : reach d.sys 100 q 0 [newC] = some g) (hq : q ≤ 1000000) :
    r_System___init__ [.ref h.length, .lst (d.rowsW.map rowP)] (h ++ [.ins 3 []]) = if 100 < g.length then .exc 1 [("bound", .int 100)] (h ++ [.ins 3 d.sys.fs, .gone, .dcn (kD g)]) else .ok .non (h ++ [.ins 3 d.sys.fs, .gone, .dcn (kD g)]) := by
  have s1 := fld_set (h := h) (fs := []) (f := "rows") (a := some (.lst (d.rowsW.map rowP))) (b := none) (c := none) (v_rw (some (.ref h.length)) none none) (by decide)
  have s2 := v_nums (hh := h ++ [.ins 3 (putP "rows" (.tup (d.rowsW.map rowP)) [])]) f (some (.ref h.length)) none none
  have s3 := fld_set (h := h) (fs := putP "rows" (.tup (d.rowsW.map rowP)) []) (f := "slots") (v_sl (d := d) (.ref h.length) none) (lt1k 1 rfl (by decide))
  have s4 := fld_set (h := h) (fs := putP "slots" (.int d.slots) (putP "rows" (.tup (d.rowsW.map rowP)) [])) (f := "peak_slots") (v_pk (d := d) (.ref h.length) none) (lt1k 2 rfl (by decide))
  have s5 := fld_set (h := h) (fs := putP "peak_slots" (.tup ((d.peak.getD []).map .int)) (putP "slots" (.int d.slots) (putP "rows" (.tup (d.rowsW.map rowP)) []))) (f := "prices") (v_pr f (some (.ref h.length)) (some (.dct (numsD d.rowsW []))) none) (lt1k 3 rfl (by decide))
  have s6 := fld_set (h := h) (fs := putP "prices" (.dct (pD d.rides)) (putP "peak_slots" (.tup ((d.peak.getD []).map .int)) (putP "slots" (.int d.slots) (putP "rows" (.tup (d.rowsW.map rowP)) [])))) (f := "letters") (v_let f rfl (some (.lst (d.rowsW.map rowP))) (some (.dct (numsD d.rowsW []))) none) (lt1k 4 rfl (by decide))
  have s7 := fld_set (h := h) (fs := putP "letters" (.str ⟨d.sys.lets.toArray⟩) (putP "prices" (.dct (pD d.rides)) (putP "peak_slots" (.tup ((d.peak.getD []).map .int)) (putP "slots" (.int d.slots) (putP "rows" (.tup (d.rowsW.map rowP)) []))))) (f := "transfer") (v_tr (d := d) (.ref h.length) none) (lt1k 5 rfl (by decide))
  have s8 := fld_set (h := h) (fs := putP "transfer" (oT d.transfer) (putP "letters" (.str ⟨d.sys.lets.toArray⟩) (putP "prices" (.dct (pD d.rides)) (putP "peak_slots" (.tup ((d.peak.getD []).map .int)) (putP "slots" (.int d.slots) (putP "rows" (.tup (d.rowsW.map rowP)) [])))))) (f := "cap") (v_cap (d := d) (.ref h.length) none) (lt1k 6 rfl (by decide))
  have s9 := fld_set (h := h) (fs := putP "cap" (oI d.cap) (putP "transfer" (oT d.transfer) (putP "letters" (.str ⟨d.sys.lets.toArray⟩) (putP "prices" (.dct (pD d.rides)) (putP "peak_slots" (.tup ((d.peak.getD []).map .int)) (putP "slots" (.int d.slots) (putP "rows" (.tup (d.rowsW.map rowP)) []))))))) (f := "bonus") (v_bon (d := d) (.ref h.length) none) (lt1k 7 rfl (by decide))
  have e : putP "bonus" (oI d.bonus) (putP "cap" (oI d.cap) (putP "transfer" (oT d.transfer) (putP "letters" (.str ⟨d.sys.lets.toArray⟩) (putP "prices" (.dct (pD d.rides)) (putP "peak_slots" (.tup ((d.peak.getD []).map .int)) (putP "slots" (.int d.slots) (putP "rows" (.tup (d.rowsW.map rowP)) []))))))) = d.sys.fs := rfl
  rw [e] at s9
  have hsys : IsSys (h ++ [.ins 3 d.sys.fs]) h.length d.sys := by
    unfold IsSys
    simp
  have hlets : ((100 : Int) + (d.sys.lets.length : Nat)) < 1000000 := by
    have := f.rz
    unfold Sys.lets SD.sys
    simp only [List.length_append, List.length_map, List.length_cons, List.length_nil]
    omega
  have hre := run_reached hsys 100 hlets (SD.lets_ok f) hr hq
  have hfin : (h ++ [Ob.ins 3 d.sys.fs]) ++ [.gone, .dcn (kD g)] = h ++ [.ins 3 d.sys.fs, .gone, .dcn (kD g)] := by simp
  rw [hfin] at hre
  have hend : iEnd [some (.ref h.length), some (.lst (d.rowsW.map rowP)), some (.dct (numsD d.rowsW [])), none] (h ++ [.ins 3 d.sys.fs]) = if 100 < g.length then SR.exc 1 [("bound", .int 100)] [some (.ref h.length), some (.lst (d.rowsW.map rowP)), some (.dct (numsD d.rowsW [])), none] (h ++ [.ins 3 d.sys.fs, .gone, .dcn (kD g)]) else .nx [some (.ref h.length), some (.lst (d.rowsW.map rowP)), some (.dct (numsD d.rowsW [])), none] (h ++ [.ins 3 d.sys.fs, .gone, .dcn (kD g)]) := by
    unfold iEnd
    have hcp := copied_int 5 100
    by_cases hg : 100 < g.length
    · have hg2 : (100 : Int) < ((g.map Cd.pv).length : Nat) := by rw [List.length_map]; omega
      simp only [runF, startS, sSeq, sSet, sRet, sRetN, sIf, sDrop, sAsg, sNext, sNever, sAug, asg_nm, asg_2, asg_3, asg_4, xVar, xC, aNil, aCons, xOp, xCall, xMt, xTup, xLst, xIf, xAnd, xOr, xNot, bOf, bTru, bAnd, bOr, bNot, bYes, gI2, gAdd, gSub, gLt, gLe, gGt, gGe, gIxT, gLen, gMin2, gMax2, gIsN, Rs.bind_ok, Rs.bind_exc, Rs.toS_ok, Rs.toS_exc, List.map_cons, List.map_nil, List.length_cons, List.length_nil, List.replicate, List.cons_append, List.nil_append, List.getElem?_cons_zero, List.getElem?_cons_succ, List.getElem?_nil, List.set_cons_zero, List.set_cons_succ, Nat.reduceAdd, Nat.reduceSub, Nat.reduceEqDiff, if_true, if_false, if_pos rfl, reduceIte, decide_true, decide_false, Bool.not_true, Bool.not_false, sizeLine_eq, Nat.reduceLeDiff, eqd_int, xFld, Bool.true_eq_false, Bool.false_eq_true, ite_toS, ite_bind, hre, asL, hg2, hg, sRaise, cpF, hcp, Nat.zero_le]
    · have hg2 : ¬ (100 : Int) < ((g.map Cd.pv).length : Nat) := by rw [List.length_map]; omega
      simp only [runF, startS, sSeq, sSet, sRet, sRetN, sIf, sDrop, sAsg, sNext, sNever, sAug, asg_nm, asg_2, asg_3, asg_4, xVar, xC, aNil, aCons, xOp, xCall, xMt, xTup, xLst, xIf, xAnd, xOr, xNot, bOf, bTru, bAnd, bOr, bNot, bYes, gI2, gAdd, gSub, gLt, gLe, gGt, gGe, gIxT, gLen, gMin2, gMax2, gIsN, Rs.bind_ok, Rs.bind_exc, Rs.toS_ok, Rs.toS_exc, List.map_cons, List.map_nil, List.length_cons, List.length_nil, List.replicate, List.cons_append, List.nil_append, List.getElem?_cons_zero, List.getElem?_cons_succ, List.getElem?_nil, List.set_cons_zero, List.set_cons_succ, Nat.reduceAdd, Nat.reduceSub, Nat.reduceEqDiff, if_true, if_false, if_pos rfl, reduceIte, decide_true, decide_false, Bool.not_true, Bool.not_false, sizeLine_eq, Nat.reduceLeDiff, eqd_int, xFld, Bool.true_eq_false, Bool.false_eq_true, ite_toS, ite_bind, hre, asL, hg2, hg]
  rw [init_def]
  simp only [Rs.bind_ok, Rs.bind_exc, Rs.toS_ok, Rs.toS_exc, List.map_cons, List.map_nil, List.length_cons, List.length_nil, List.replicate, List.cons_append, List.nil_append, List.getElem?_cons_zero, List.getElem?_cons_succ, List.getElem?_nil, List.set_cons_zero, List.set_cons_succ, Nat.reduceAdd, Nat.reduceSub, Nat.reduceEqDiff, if_true, if_false, if_pos rfl, reduceIte, runF, startS, sSeq, s1, sSet, s2, s3, s4, s5, s6, s7, s8, s9, hend]
  by_cases hg : 100 < g.length
  · rw [if_pos hg, if_pos hg]
  · rw [if_neg hg, if_neg hg]
end
end TR

set_option Elab.async false
set_option linter.all false
set_option maxRecDepth 100000
set_option maxHeartbeats 4000000
namespace TR
open PySem PySem.Spec L2
open SX (S)

/-! ### numbers in texts -/
def nS (k : Int) : Str := Str.ofString (toString k)
theorem nS_facts : ∀ a ∈ List.range 21, PyData.strOk (nS (a : Nat)) = true ∧ ∀ b ∈ List.range 21, nS (a : Nat) = nS (b : Nat) → a = b := by decide +kernel
def Sm (k : Int) : Prop := 0 ≤ k ∧ k ≤ 20
instance (k : Int) : Decidable (Sm k) := inferInstanceAs (Decidable (_ ∧ _))
theorem Sm.nat {k : Int} (h : Sm k) : k.toNat ∈ List.range 21 ∧ ((k.toNat : Nat) : Int) = k := by
  obtain ⟨h1, h2⟩ := h
  refine ⟨List.mem_range.mpr (by omega), by omega⟩
theorem nS_ok {k : Int} (h : Sm k) : PyData.strOk (nS k) = true := by
  have := (nS_facts _ h.nat.1).1
  rwa [h.nat.2] at this
theorem nS_inj {j k : Int} (hj : Sm j) (hk : Sm k) (e : nS j = nS k) : j = k := by
  have := (nS_facts _ hj.nat.1).2 _ hk.nat.1 (by rw [hj.nat.2, hk.nat.2]; exact e)
  rw [← hj.nat.2, ← hk.nat.2, this]
theorem strI {k : Int} (h : Sm k) (hh : Hh) : gStrI [.int k] hh = .ok (.str (nS k)) hh := by
  have : k.natAbs.log2 < 1920 := by
    have h1 : k.natAbs.log2 ≤ k.natAbs := Nat.log2_le_self _
    obtain ⟨a, b⟩ := h
    omega
  show (if k.natAbs.log2 < 1920 then Rs.ok (PV.str (toString k)) hh else .bad) = _
  rw [if_pos this]
  rfl
def bN : Sx := sIf (bOf (xOp (gEqD false) (xVar 0) (xCall gStrI (aCons (xVar 3) (aNil))))) (sRet (xVar 3)) (sNext)
theorem number_def : r_number_in = runF 3 4 (sSeq (sFor (iRange2 (aCons (xVar 1) (aCons (xOp gAdd (xVar 2) (xC (.int 1))) (aNil)))) (.nm 3) bN) (sRet (xC .non))) := rfl
def intsR (lo hi : Int) : List Int := (List.range (hi + 1 - lo).toNat).map fun i => lo + (i : Nat)
def numIn (w : Str) (l : List Int) : Option Int := l.find? fun j => decide (w = nS j)
theorem loop_N {w : Str} (hw : PyData.strOk w = true) (h : Hh) (a1 a2 : Option PV) : ∀ (l : List Int) (a3 : Option PV), (∀ j ∈ l, Sm j) → ∃ b3, forL (.nm 3) bN (l.map .int) [some (.str w), a1, a2, a3] h = match numIn w l with
    | some j => .ret (.int j) h
    | none => .nx [some (.str w), a1, a2, b3] h
  | [], a3, _ => ⟨a3, rfl⟩
  | j :: l, a3, hl => by
    have hj := hl j List.mem_cons_self
    obtain ⟨b3, ih⟩ := loop_N hw h a1 a2 l (some (.int j)) fun x hx => hl x (List.mem_cons_of_mem _ hx)
    have he := eqd_str false w (nS j) h hw (nS_ok hj)
    have hs := strI hj h
    refine ⟨b3, ?_⟩
    rw [List.map_cons]
    unfold forL
    by_cases e : w = nS j
    · have hb : bN [some (.str w), a1, a2, some (.int j)] h = .ret (.int j) h := by
        rw [decide_eq_true e] at he
        unfold bN
        simp only [runF, startS, sSeq, sSet, sRet, sRetN, sIf, sDrop, sAsg, sNext, sNever, sAug, asg_nm, asg_2, asg_3, asg_4, xVar, xC, aNil, aCons, xOp, xCall, xMt, xTup, xLst, xIf, xAnd, xOr, xNot, bOf, bTru, bAnd, bOr, bNot, bYes, gI2, gAdd, gSub, gLt, gLe, gGt, gGe, gIxT, gLen, gMin2, gMax2, gIsN, Rs.bind_ok, Rs.bind_exc, Rs.toS_ok, Rs.toS_exc, List.map_cons, List.map_nil, List.length_cons, List.length_nil, List.replicate, List.cons_append, List.nil_append, List.getElem?_cons_zero, List.getElem?_cons_succ, List.getElem?_nil, List.set_cons_zero, List.set_cons_succ, Nat.reduceAdd, Nat.reduceSub, Nat.reduceEqDiff, if_true, if_false, if_pos rfl, reduceIte, decide_true, decide_false, Bool.not_true, Bool.not_false, sizeLine_eq, Nat.reduceLeDiff, eqd_int, xFld, Bool.true_eq_false, Bool.false_eq_true, ite_toS, ite_bind, hs, he]
      have hn : numIn w (j :: l) = some j := by
        unfold numIn
        rw [List.find?_cons, decide_eq_true e]
      rw [hn]
      simp only [Rs.bind_ok, Rs.bind_exc, Rs.toS_ok, Rs.toS_exc, List.map_cons, List.map_nil, List.length_cons, List.length_nil, List.replicate, List.cons_append, List.nil_append, List.getElem?_cons_zero, List.getElem?_cons_succ, List.getElem?_nil, List.set_cons_zero, List.set_cons_succ, Nat.reduceAdd, Nat.reduceSub, Nat.reduceEqDiff, if_true, if_false, if_pos rfl, reduceIte, asg_nm, hb]
    · have hb : bN [some (.str w), a1, a2, some (.int j)] h = .nx [some (.str w), a1, a2, some (.int j)] h := by
        rw [decide_eq_false e] at he
        unfold bN
        simp only [runF, startS, sSeq, sSet, sRet, sRetN, sIf, sDrop, sAsg, sNext, sNever, sAug, asg_nm, asg_2, asg_3, asg_4, xVar, xC, aNil, aCons, xOp, xCall, xMt, xTup, xLst, xIf, xAnd, xOr, xNot, bOf, bTru, bAnd, bOr, bNot, bYes, gI2, gAdd, gSub, gLt, gLe, gGt, gGe, gIxT, gLen, gMin2, gMax2, gIsN, Rs.bind_ok, Rs.bind_exc, Rs.toS_ok, Rs.toS_exc, List.map_cons, List.map_nil, List.length_cons, List.length_nil, List.replicate, List.cons_append, List.nil_append, List.getElem?_cons_zero, List.getElem?_cons_succ, List.getElem?_nil, List.set_cons_zero, List.set_cons_succ, Nat.reduceAdd, Nat.reduceSub, Nat.reduceEqDiff, if_true, if_false, if_pos rfl, reduceIte, decide_true, decide_false, Bool.not_true, Bool.not_false, sizeLine_eq, Nat.reduceLeDiff, eqd_int, xFld, Bool.true_eq_false, Bool.false_eq_true, ite_toS, ite_bind, hs, he]
      have hn : numIn w (j :: l) = numIn w l := by
        unfold numIn
        rw [List.find?_cons, decide_eq_false e]
      rw [hn]
      simp only [Rs.bind_ok, Rs.bind_exc, Rs.toS_ok, Rs.toS_exc, List.map_cons, List.map_nil, List.length_cons, List.length_nil, List.replicate, List.cons_append, List.nil_append, List.getElem?_cons_zero, List.getElem?_cons_succ, List.getElem?_nil, List.set_cons_zero, List.set_cons_succ, Nat.reduceAdd, Nat.reduceSub, Nat.reduceEqDiff, if_true, if_false, if_pos rfl, reduceIte, asg_nm, hb]
      exact ih
def oN : Option Int → PV
  | some j => .int j
  | none => .non
theorem run_number {w : Str} (hw : PyData.strOk w = true) {lo hi : Int} (h0 : 0 ≤ lo) (h2 : lo ≤ 20) (h3 : -1 ≤ hi) (h1 : hi ≤ 20) (h : Hh) : r_number_in [.str w, .int lo, .int hi] h = .ok (oN (numIn w (intsR lo hi))) h := by
  have hl : ∀ j ∈ intsR lo hi, Sm j := by
    intro j hj
    obtain ⟨i, hi, rfl⟩ := List.mem_map.mp hj
    have := List.mem_range.mp hi
    exact ⟨by omega, by omega⟩
  obtain ⟨b3, hf⟩ := loop_N hw h (some (.int lo)) (some (.int hi)) (intsR lo hi) none hl
  have hi2 : intR lo (hi + 1 - lo).toNat = (intsR lo hi).map .int := by
    unfold intR intsR
    rw [List.map_map]
    rfl
  have hc : -(2 ^ 62) ≤ lo ∧ lo < 2 ^ 62 ∧ -(2 ^ 62) ≤ hi + 1 ∧ hi + 1 < 2 ^ 62 := by omega
  rw [number_def]
  simp only [runF, startS, sSeq, sSet, sRet, sRetN, sIf, sDrop, sAsg, sNext, sNever, sAug, asg_nm, asg_2, asg_3, asg_4, xVar, xC, aNil, aCons, xOp, xCall, xMt, xTup, xLst, xIf, xAnd, xOr, xNot, bOf, bTru, bAnd, bOr, bNot, bYes, gI2, gAdd, gSub, gLt, gLe, gGt, gGe, gIxT, gLen, gMin2, gMax2, gIsN, Rs.bind_ok, Rs.bind_exc, Rs.toS_ok, Rs.toS_exc, List.map_cons, List.map_nil, List.length_cons, List.length_nil, List.replicate, List.cons_append, List.nil_append, List.getElem?_cons_zero, List.getElem?_cons_succ, List.getElem?_nil, List.set_cons_zero, List.set_cons_succ, Nat.reduceAdd, Nat.reduceSub, Nat.reduceEqDiff, if_true, if_false, if_pos rfl, reduceIte, decide_true, decide_false, Bool.not_true, Bool.not_false, sizeLine_eq, Nat.reduceLeDiff, eqd_int, xFld, Bool.true_eq_false, Bool.false_eq_true, ite_toS, ite_bind, sFor, iRange2, hi2, hf, hc, and_self]
  cases numIn w (intsR lo hi) <;> rfl
theorem num_in {lo hi k : Int} (h0 : 0 ≤ lo) (h1 : hi ≤ 20) (hk : lo ≤ k) (hk2 : k ≤ hi) : numIn (nS k) (intsR lo hi) = some k := by
  unfold numIn
  have hm : k ∈ intsR lo hi := List.mem_map.mpr ⟨(k - lo).toNat, List.mem_range.mpr (by omega), by omega⟩
  cases e : (intsR lo hi).find? (fun j => decide (nS k = nS j)) with
  | none =>
    have := List.find?_eq_none.mp e k hm
    exact absurd (decide_eq_true rfl) this
  | some j =>
    have h2 : nS k = nS j := by
      have z := List.find?_some e
      exact of_decide_eq_true z
    have hj := List.mem_of_find?_eq_some e
    obtain ⟨i, hi, rfl⟩ := List.mem_map.mp hj
    have := List.mem_range.mp hi
    rw [nS_inj ⟨by omega, by omega⟩ ⟨by omega, by omega⟩ h2]
theorem run_num {lo hi k : Int} (h0 : 0 ≤ lo) (h1 : hi ≤ 20) (hk : lo ≤ k) (hk2 : k ≤ hi) (h : Hh) : r_number_in [.str (nS k), .int lo, .int hi] h = .ok (.int k) h := by
  rw [run_number (nS_ok ⟨by omega, by omega⟩) h0 (by omega) (by omega) h1 h, num_in h0 h1 hk hk2]
  rfl
end TR

set_option Elab.async false
set_option linter.all false
set_option maxRecDepth 100000
set_option maxHeartbeats 4000000
namespace TR
open PySem PySem.Spec L2
open SX (S)

theorem cut_from (l : List PV) (k : Nat) : cutP l (some (k : Int)) none = l.drop k := by
  unfold cutP
  rw [HT.sIx_nat]
  show (l.drop (min k l.length)).take (l.length - min k l.length) = _
  by_cases h : k ≤ l.length
  · rw [Nat.min_eq_left h, List.take_of_length_le (by rw [List.length_drop]; exact Nat.le_refl _)]
  · rw [Nat.min_eq_right (by omega), Nat.sub_self, List.take_zero, List.drop_eq_nil_of_le (by omega)]
theorem cut_to (l : List PV) (k : Nat) : cutP l none (some (k : Int)) = l.take k := by
  unfold cutP
  rw [HT.sIx_nat]
  show (l.drop 0).take (min k l.length - 0) = _
  rw [List.drop_zero, Nat.sub_zero]
  by_cases h : k ≤ l.length
  · rw [Nat.min_eq_left h]
  · rw [Nat.min_eq_right (by omega), List.take_of_length_le (Nat.le_refl _), List.take_of_length_le (by omega)]
theorem asg_n2 (i j k : Nat) (v a b : PV) (st : Sl) : asg (.tp [.nm i, .tp [.nm j, .nm k]]) (.tup [v, .tup [a, b]]) st = some (((st.set i (some v)).set j (some a)).set k (some b)) := by simp only [asg, asgs]
theorem none_in (l : List Int) (h : Hh) : gIn false .non (.lst (l.map .int)) h = .ok (.bl false) h := by
  have hf : (l.map PV.int).all flatP = true := List.all_eq_true.mpr fun v hv => by
    obtain ⟨j, _, rfl⟩ := List.mem_map.mp hv
    rfl
  have hi : inP .non (l.map .int) = false := by
    induction l with
    | nil => rfl
    | cons j r ih =>
      show (eqP (.int j) .non || inP .non (r.map .int)) = _
      rw [ih (List.all_eq_true.mpr fun v hv => by
        obtain ⟨j, _, rfl⟩ := List.mem_map.mp hv
        rfl)]
      rfl
  show (if flatP .non = true ∧ (l.map PV.int).all flatP = true then Rs.ok (PV.bl (inP .non (l.map .int))) h else .bad) = _
  rw [if_pos ⟨rfl, hf⟩, hi]
abbrev bP (b : Int × Int) : PV := .tup [.int b.1, .int b.2]
/-- numbers within their bounds -/
inductive InB : List Int → List (Int × Int) → Prop
  | nil : InB [] []
  | cons {k : Int} {b : Int × Int} {ks bs} : 0 ≤ b.1 → b.2 ≤ 20 → b.1 ≤ k → k ≤ b.2 → InB ks bs → InB (k :: ks) (b :: bs)
theorem InB.len {ks bs} (h : InB ks bs) : ks.length = bs.length := by
  induction h with
  | nil => rfl
  | cons _ _ _ _ _ ih => rw [List.length_cons, List.length_cons, ih]
def eNum : Ex := xCall r_number_in (aCons (xVar 4) (aCons (xVar 5) (aCons (xVar 6) (aNil))))
theorem loop_nums (h : Hh) (s0 s1 s2 s3 : Option PV) : ∀ (ks : List Int) (bs : List (Int × Int)) (acc : List PV) (s4 s5 s6 : Option PV), InB ks bs → acc.length + ks.length ≤ 1000 →
    lcL (.tp [.nm 4, .tp [.nm 5, .nm 6]]) bYes eNum [s0, s1, s2, s3, s4, s5, s6] (zipP (ks.map fun k => .str (nS k)) (bs.map bP)) acc h = .ok (acc ++ ks.map .int) h
  | [], bs, acc, s4, s5, s6, hb, hz => by
    cases hb
    show Rs.ok acc h = _
    rw [List.map_nil, List.append_nil]
  | k :: ks, bs, acc, s4, s5, s6, hb, hz => by
    cases hb with
    | cons h0 h1 hk hk2 hb =>
      rename_i b bs
      have hn := run_num h0 h1 hk hk2 h
      have ih := loop_nums h s0 s1 s2 s3 ks bs (acc ++ [.int k]) s4 s5 s6 hb (by simp only [List.length_append, List.length_cons, List.length_nil] at hz ⊢; omega)
      have he : eNum [s0, s1, s2, s3, some (.str (nS k)), some (.int b.1), some (.int b.2)] h = .ok (.int k) h := by
        unfold eNum
        simp only [runF, startS, sSeq, sSet, sRet, sRetN, sIf, sDrop, sAsg, sNext, sNever, sAug, asg_nm, asg_2, asg_3, asg_4, xVar, xC, aNil, aCons, xOp, xCall, xMt, xTup, xLst, xIf, xAnd, xOr, xNot, bOf, bTru, bAnd, bOr, bNot, bYes, gI2, gAdd, gSub, gLt, gLe, gGt, gGe, gIxT, gLen, gMin2, gMax2, gIsN, Rs.bind_ok, Rs.bind_exc, Rs.toS_ok, Rs.toS_exc, List.map_cons, List.map_nil, List.length_cons, List.length_nil, List.replicate, List.cons_append, List.nil_append, List.getElem?_cons_zero, List.getElem?_cons_succ, List.getElem?_nil, List.set_cons_zero, List.set_cons_succ, Nat.reduceAdd, Nat.reduceSub, Nat.reduceEqDiff, if_true, if_false, if_pos rfl, reduceIte, decide_true, decide_false, Bool.not_true, Bool.not_false, sizeLine_eq, Nat.reduceLeDiff, eqd_int, xFld, Bool.true_eq_false, Bool.false_eq_true, ite_toS, ite_bind, hn]
      have hl : acc.length < sizeLine := by rw [sizeLine_eq]; simp only [List.length_cons] at hz; omega
      show lcL _ bYes eNum _ (.tup [.str (nS k), .tup [.int b.1, .int b.2]] :: zipP (ks.map fun k => .str (nS k)) (bs.map bP)) acc h = _
      rw [lcL]
      simp only [Rs.bind_ok, Rs.bind_exc, Rs.toS_ok, Rs.toS_exc, List.map_cons, List.map_nil, List.length_cons, List.length_nil, List.replicate, List.cons_append, List.nil_append, List.getElem?_cons_zero, List.getElem?_cons_succ, List.getElem?_nil, List.set_cons_zero, List.set_cons_succ, Nat.reduceAdd, Nat.reduceSub, Nat.reduceEqDiff, if_true, if_false, if_pos rfl, reduceIte, asg_n2, bYes, he, hl]
      rw [ih, List.append_assoc]
      rfl
theorem numbers_def : r_read_numbers = runF 2 7 (sSeq (sSet 2 (xTab tab_BOUNDS (xOp gIxL (xVar 0) (xC (.int 0))))) (sSeq (sIf (bOf (xOp (gEqD true) (xCall gLen (aCons (xVar 0) (aNil))) (xOp gAdd (xVar 1) (xCall gLen (aCons (xVar 2) (aNil)))))) (sRet (xC .non)) (sNext)) (sSeq (sSet 3 (xLc (iZipR (aCons (xSl gSlL (xVar 0) (pSome (xVar 1)) (pNone)) (aCons (xVar 2) (aNil)))) (.tp [.nm 4, .tp [.nm 5, .nm 6]]) (bYes) eNum [4, 5, 6])) (sRet (xIf (bOf (xOp (gIn false) (xC .non) (xVar 3))) (xC .non) (xCall gTupO (aCons (xOp gCatL (xSl gSlL (xVar 0) (pNone) (pSome (xVar 1))) (xVar 3)) (aNil)))))))) := rfl
theorem run_numbers (h : Hh) {w : Str} {ws pw : List PV} {ks : List Int} {bs : List (Int × Int)} {n : Nat} (ht : tab_BOUNDS.lookup w = some (.tup (bs.map bP))) (hb : InB ks bs) (hws : ws = pw ++ ks.map fun k => .str (nS k)) (hn : pw.length = n) (h0 : atI ws 0 = some (.str w)) (hz : n ≤ 10) (hk : ks.length ≤ 10) :
    r_read_numbers [.lst ws, .int (n : Nat)] h = .ok (.tup (pw ++ ks.map .int)) h := by
  have h1 := loop_nums h (some (.lst ws)) (some (.int (n : Nat))) (some (.tup (bs.map bP))) none ks bs [] none none none hb (by simp only [List.length_nil]; omega)
  rw [List.nil_append] at h1
  have hd : ws.drop n = ks.map fun k => .str (nS k) := by rw [hws, ← hn, List.drop_left]
  have ht2 : ws.take n = pw := by rw [hws, ← hn, List.take_left]
  have hlen : (ws.length : Int) = (n : Nat) + ((bs.map bP).length : Nat) := by
    rw [hws, List.length_append, List.length_map, List.length_map, ← hb.len, hn]
    omega
  have hx : xTab tab_BOUNDS (xOp gIxL (xVar 0) (xC (.int 0))) [some (.lst ws), some (.int (n : Nat)), none, none, none, none, none] h = .ok (.tup (bs.map bP)) h := by
    unfold xTab
    simp only [runF, startS, sSeq, sSet, sRet, sRetN, sIf, sDrop, sAsg, sNext, sNever, sAug, asg_nm, asg_2, asg_3, asg_4, xVar, xC, aNil, aCons, xOp, xCall, xMt, xTup, xLst, xIf, xAnd, xOr, xNot, bOf, bTru, bAnd, bOr, bNot, bYes, gI2, gAdd, gSub, gLt, gLe, gGt, gGe, gIxT, gLen, gMin2, gMax2, gIsN, Rs.bind_ok, Rs.bind_exc, Rs.toS_ok, Rs.toS_exc, List.map_cons, List.map_nil, List.length_cons, List.length_nil, List.replicate, List.cons_append, List.nil_append, List.getElem?_cons_zero, List.getElem?_cons_succ, List.getElem?_nil, List.set_cons_zero, List.set_cons_succ, Nat.reduceAdd, Nat.reduceSub, Nat.reduceEqDiff, if_true, if_false, if_pos rfl, reduceIte, decide_true, decide_false, Bool.not_true, Bool.not_false, sizeLine_eq, Nat.reduceLeDiff, eqd_int, xFld, Bool.true_eq_false, Bool.false_eq_true, ite_toS, ite_bind, gIxL, asL, h0, ht]
  have hcat : gCatL (.lst pw) (.lst (ks.map .int)) h = .ok (.lst (pw ++ ks.map .int)) h := by
    unfold gCatL asLm
    dsimp only
    rw [if_pos (by rw [sizeLine_eq, List.length_map]; omega)]
  have hgz : iZipR (aCons (xSl gSlL (xVar 0) (pSome (xVar 1)) (pNone)) (aCons (xVar 2) (aNil))) [some (.lst ws), some (.int (n : Nat)), some (.tup (bs.map bP)), none, none, none, none] h = .ok (zipP (ks.map fun k => .str (nS k)) (bs.map bP)) h := by
    unfold iZipR xSl pSome pNone
    simp only [runF, startS, sSeq, sSet, sRet, sRetN, sIf, sDrop, sAsg, sNext, sNever, sAug, asg_nm, asg_2, asg_3, asg_4, xVar, xC, aNil, aCons, xOp, xCall, xMt, xTup, xLst, xIf, xAnd, xOr, xNot, bOf, bTru, bAnd, bOr, bNot, bYes, gI2, gAdd, gSub, gLt, gLe, gGt, gGe, gIxT, gLen, gMin2, gMax2, gIsN, Rs.bind_ok, Rs.bind_exc, Rs.toS_ok, Rs.toS_exc, List.map_cons, List.map_nil, List.length_cons, List.length_nil, List.replicate, List.cons_append, List.nil_append, List.getElem?_cons_zero, List.getElem?_cons_succ, List.getElem?_nil, List.set_cons_zero, List.set_cons_succ, Nat.reduceAdd, Nat.reduceSub, Nat.reduceEqDiff, if_true, if_false, if_pos rfl, reduceIte, decide_true, decide_false, Bool.not_true, Bool.not_false, sizeLine_eq, Nat.reduceLeDiff, eqd_int, xFld, Bool.true_eq_false, Bool.false_eq_true, ite_toS, ite_bind, gSlL, asL, cut_from, hd, seqF]
  have hgc : xCall gTupO (aCons (xOp gCatL (xSl gSlL (xVar 0) (pNone) (pSome (xVar 1))) (xVar 3)) (aNil)) [some (.lst ws), some (.int (n : Nat)), some (.tup (bs.map bP)), some (.lst (ks.map .int)), none, none, none] h = .ok (.tup (pw ++ ks.map .int)) h := by
    unfold xSl pSome pNone
    simp only [runF, startS, sSeq, sSet, sRet, sRetN, sIf, sDrop, sAsg, sNext, sNever, sAug, asg_nm, asg_2, asg_3, asg_4, xVar, xC, aNil, aCons, xOp, xCall, xMt, xTup, xLst, xIf, xAnd, xOr, xNot, bOf, bTru, bAnd, bOr, bNot, bYes, gI2, gAdd, gSub, gLt, gLe, gGt, gGe, gIxT, gLen, gMin2, gMax2, gIsN, Rs.bind_ok, Rs.bind_exc, Rs.toS_ok, Rs.toS_exc, List.map_cons, List.map_nil, List.length_cons, List.length_nil, List.replicate, List.cons_append, List.nil_append, List.getElem?_cons_zero, List.getElem?_cons_succ, List.getElem?_nil, List.set_cons_zero, List.set_cons_succ, Nat.reduceAdd, Nat.reduceSub, Nat.reduceEqDiff, if_true, if_false, if_pos rfl, reduceIte, decide_true, decide_false, Bool.not_true, Bool.not_false, sizeLine_eq, Nat.reduceLeDiff, eqd_int, xFld, Bool.true_eq_false, Bool.false_eq_true, ite_toS, ite_bind, gSlL, asL, cut_to, ht2, hcat, gTupO]
  have hni := none_in ks h
  have hlc : xLc (iZipR (aCons (xSl gSlL (xVar 0) (pSome (xVar 1)) (pNone)) (aCons (xVar 2) (aNil)))) (.tp [.nm 4, .tp [.nm 5, .nm 6]]) (bYes) eNum [4, 5, 6] [some (.lst ws), some (.int (n : Nat)), some (.tup (bs.map bP)), none, none, none, none] h = .ok (.lst (ks.map .int)) h := by
    unfold xLc
    rw [hgz]
    simp only [Rs.bind_ok, Rs.bind_exc, Rs.toS_ok, Rs.toS_exc, List.map_cons, List.map_nil, List.length_cons, List.length_nil, List.replicate, List.cons_append, List.nil_append, List.getElem?_cons_zero, List.getElem?_cons_succ, List.getElem?_nil, List.set_cons_zero, List.set_cons_succ, Nat.reduceAdd, Nat.reduceSub, Nat.reduceEqDiff, if_true, if_false, if_pos rfl, reduceIte, wipeS, h1]
  have hcond : bOf (xOp (gEqD true) (xCall gLen (aCons (xVar 0) (aNil))) (xOp gAdd (xVar 1) (xCall gLen (aCons (xVar 2) (aNil))))) [some (.lst ws), some (.int (n : Nat)), some (.tup (bs.map bP)), none, none, none, none] h = .ok false h := by
    have he := eqd_int true (ws.length : Int) ((n : Nat) + ((bs.map bP).length : Nat)) h
    rw [decide_eq_true hlen] at he
    simp only [runF, startS, sSeq, sSet, sRet, sRetN, sIf, sDrop, sAsg, sNext, sNever, sAug, asg_nm, asg_2, asg_3, asg_4, xVar, xC, aNil, aCons, xOp, xCall, xMt, xTup, xLst, xIf, xAnd, xOr, xNot, bOf, bTru, bAnd, bOr, bNot, bYes, gI2, gAdd, gSub, gLt, gLe, gGt, gGe, gIxT, gLen, gMin2, gMax2, gIsN, Rs.bind_ok, Rs.bind_exc, Rs.toS_ok, Rs.toS_exc, List.map_cons, List.map_nil, List.length_cons, List.length_nil, List.replicate, List.cons_append, List.nil_append, List.getElem?_cons_zero, List.getElem?_cons_succ, List.getElem?_nil, List.set_cons_zero, List.set_cons_succ, Nat.reduceAdd, Nat.reduceSub, Nat.reduceEqDiff, if_true, if_false, if_pos rfl, reduceIte, decide_true, decide_false, Bool.not_true, Bool.not_false, sizeLine_eq, Nat.reduceLeDiff, eqd_int, xFld, Bool.true_eq_false, Bool.false_eq_true, ite_toS, ite_bind, asL, he]
  rw [numbers_def]
  have hni2 : bOf (xOp (gIn false) (xC .non) (xVar 3)) [some (.lst ws), some (.int (n : Nat)), some (.tup (bs.map bP)), some (.lst (ks.map .int)), none, none, none] h = .ok false h := by
    simp only [runF, startS, sSeq, sSet, sRet, sRetN, sIf, sDrop, sAsg, sNext, sNever, sAug, asg_nm, asg_2, asg_3, asg_4, xVar, xC, aNil, aCons, xOp, xCall, xMt, xTup, xLst, xIf, xAnd, xOr, xNot, bOf, bTru, bAnd, bOr, bNot, bYes, gI2, gAdd, gSub, gLt, gLe, gGt, gGe, gIxT, gLen, gMin2, gMax2, gIsN, Rs.bind_ok, Rs.bind_exc, Rs.toS_ok, Rs.toS_exc, List.map_cons, List.map_nil, List.length_cons, List.length_nil, List.replicate, List.cons_append, List.nil_append, List.getElem?_cons_zero, List.getElem?_cons_succ, List.getElem?_nil, List.set_cons_zero, List.set_cons_succ, Nat.reduceAdd, Nat.reduceSub, Nat.reduceEqDiff, if_true, if_false, if_pos rfl, reduceIte, decide_true, decide_false, Bool.not_true, Bool.not_false, sizeLine_eq, Nat.reduceLeDiff, eqd_int, xFld, Bool.true_eq_false, Bool.false_eq_true, ite_toS, ite_bind, hni]
  simp only [Rs.bind_ok, Rs.bind_exc, Rs.toS_ok, Rs.toS_exc, List.map_cons, List.map_nil, List.length_cons, List.length_nil, List.replicate, List.cons_append, List.nil_append, List.getElem?_cons_zero, List.getElem?_cons_succ, List.getElem?_nil, List.set_cons_zero, List.set_cons_succ, Nat.reduceAdd, Nat.reduceSub, Nat.reduceEqDiff, if_true, if_false, if_pos rfl, reduceIte, runF, startS, sSeq, sSet, hx, sIf, hcond, sNext, hlc, sRet, xIf, hni2, hgc, Bool.false_eq_true]
theorem eqd_ints (neg : Bool) (a b : List Int) (h : Hh) : gEqD neg (.lst (a.map .int)) (.lst (b.map .int)) h = .ok (.bl (if neg then !decide (a = b) else decide (a = b))) h := by
  have hd : ∀ l : List Int, dataP h 30 (.lst (l.map .int)) = some (.list (l.map .int)) := by
    intro l
    show (mapO (dataP h 29) (l.map .int)).map PyData.list = _
    have : mapO (dataP h 29) (l.map .int) = some (l.map .int) := by
      induction l with
      | nil => rfl
      | cons j r ih =>
        have e1 : dataP h 29 (.int j) = some (.int j) := by unfold dataP; rfl
        rw [List.map_cons, mapO, e1, ih]
        rfl
    rw [this]
    rfl
  have hs : ∀ l : List Int, SeqAt.shaped (.list (l.map .int)) = true := by
    intro l
    have h1 : PyData.canLayAll0 (l.map .int) = true := by
      induction l with
      | nil => rfl
      | cons j r ih =>
        show (true && PyData.canLayAll0 (r.map .int)) = true
        rw [ih]
        rfl
    have h2 : PyData.depthAll (l.map .int) = 0 := by
      induction l with
      | nil => rfl
      | cons j r ih =>
        show max 0 (PyData.depthAll (r.map .int)) = 0
        rw [ih (by
          have : (true && PyData.canLayAll0 (r.map .int)) = true := h1
          exact this)]
        rfl
    show (PyData.canLayAll0 (l.map .int) && decide (PyData.depthAll (l.map .int) + 1 ≤ 64)) = true
    rw [h1, h2]
    rfl
  have he : PyData.eqv (.list (a.map .int)) (.list (b.map .int)) = decide (a = b) := by
    show PyData.eqvAll (a.map .int) (b.map .int) = _
    induction a generalizing b with
    | nil => cases b <;> rfl
    | cons j r ih =>
      cases b with
      | nil => rfl
      | cons k t =>
        show (j == k && PyData.eqvAll (r.map .int) (t.map .int)) = _
        rw [ih]
        by_cases e : j = k
        · subst e
          rw [beq_self_eq_true, Bool.true_and]
          by_cases e2 : r = t
          · rw [decide_eq_true e2, decide_eq_true (by rw [e2])]
          · rw [decide_eq_false e2, decide_eq_false fun z => e2 (List.cons.inj z).2]
        · rw [beq_false_of_ne e, Bool.false_and, decide_eq_false fun z => e (List.cons.inj z).1]
  show (match dataP h 30 (.lst (a.map .int)), dataP h 30 (.lst (b.map .int)) with
    | some d, some e => if SeqAt.shaped d = true ∧ SeqAt.shaped e = true then Rs.ok (PV.bl (if neg then !PyData.eqv d e else PyData.eqv d e)) h else .bad
    | _, _ => .bad) = _
  rw [hd, hd]
  dsimp only
  rw [if_pos ⟨hs a, hs b⟩, he]
end TR

set_option Elab.async false
set_option linter.all false
set_option maxRecDepth 100000
set_option maxHeartbeats 4000000
namespace TR
open PySem PySem.Spec L2
open SX (S)

/-! ### the row of peak slots -/
theorem insD_lt {k : Int} : ∀ {l : List Int}, (∀ j ∈ l, k < j) → insD k l = k :: l
  | [], _ => rfl
  | a :: r, h => by
    show (if k < a then k :: a :: r else _) = _
    rw [if_pos (h a List.mem_cons_self)]
theorem sortD_asc : ∀ {l : List Int}, l.Pairwise (· < ·) → sortD l = l
  | [], _ => rfl
  | a :: r, h => by
    rw [List.pairwise_cons] at h
    show insD a (sortD r) = _
    rw [sortD_asc h.2, insD_lt h.1]
def ePk : Ex := xCall r_number_in (aCons (xVar 3) (aCons (xC (.int 0)) (aCons (xOp gSub (xVar 1) (xC (.int 1))) (aNil))))
theorem peak_def : r_read_peak = runF 2 4 (sSeq (sSet 2 (xLc (iLst (xSl gSlL (xVar 0) (pSome (xC (.int 1))) (pNone))) (.nm 3) (bYes) ePk [3])) (sSeq (sIf (bOr (bNot (bTru (xVar 2))) (bOr (bOf (xOp (gIn false) (xC .non) (xVar 2))) (bOf (xOp (gEqD true) (xVar 2) (xSortSet (aCons (xVar 2) (aNil))))))) (sRet (xC .non)) (sNext)) (sRet (xCall gTupO (aCons (xOp gCatL (xLst (aCons (xC (.str "peak")) (aNil))) (xVar 2)) (aNil)))))) := rfl
theorem loop_pk (h : Hh) {sl : Int} (h1 : 1 ≤ sl) (h2 : sl ≤ 20) (s0 s2 : Option PV) : ∀ (ks : List Int) (acc : List PV) (s3 : Option PV), (∀ k ∈ ks, 0 ≤ k ∧ k < sl) → acc.length + ks.length ≤ 1000 →
    lcL (.nm 3) bYes ePk [s0, some (.int sl), s2, s3] (ks.map fun k => .str (nS k)) acc h = .ok (acc ++ ks.map .int) h
  | [], acc, s3, hb, hz => by
    show Rs.ok acc h = _
    rw [List.map_nil, List.append_nil]
  | k :: ks, acc, s3, hb, hz => by
    have hk := hb k List.mem_cons_self
    have hn := run_num (lo := 0) (hi := sl - 1) (Int.le_refl _) (by omega) hk.1 (by omega) h
    have ih := loop_pk h h1 h2 s0 s2 ks (acc ++ [.int k]) s3 (fun j hj => hb j (List.mem_cons_of_mem _ hj)) (by simp only [List.length_append, List.length_cons, List.length_nil] at hz ⊢; omega)
    have he : ePk [s0, some (.int sl), s2, some (.str (nS k))] h = .ok (.int k) h := by
      unfold ePk
      simp only [runF, startS, sSeq, sSet, sRet, sRetN, sIf, sDrop, sAsg, sNext, sNever, sAug, asg_nm, asg_2, asg_3, asg_4, xVar, xC, aNil, aCons, xOp, xCall, xMt, xTup, xLst, xIf, xAnd, xOr, xNot, bOf, bTru, bAnd, bOr, bNot, bYes, gI2, gAdd, gSub, gLt, gLe, gGt, gGe, gIxT, gLen, gMin2, gMax2, gIsN, Rs.bind_ok, Rs.bind_exc, Rs.toS_ok, Rs.toS_exc, List.map_cons, List.map_nil, List.length_cons, List.length_nil, List.replicate, List.cons_append, List.nil_append, List.getElem?_cons_zero, List.getElem?_cons_succ, List.getElem?_nil, List.set_cons_zero, List.set_cons_succ, Nat.reduceAdd, Nat.reduceSub, Nat.reduceEqDiff, if_true, if_false, if_pos rfl, reduceIte, decide_true, decide_false, Bool.not_true, Bool.not_false, sizeLine_eq, Nat.reduceLeDiff, eqd_int, xFld, Bool.true_eq_false, Bool.false_eq_true, ite_toS, ite_bind, hn]
    have hl : acc.length < sizeLine := by rw [sizeLine_eq]; simp only [List.length_cons] at hz; omega
    rw [List.map_cons, lcL]
    simp only [Rs.bind_ok, Rs.bind_exc, Rs.toS_ok, Rs.toS_exc, List.map_cons, List.map_nil, List.length_cons, List.length_nil, List.replicate, List.cons_append, List.nil_append, List.getElem?_cons_zero, List.getElem?_cons_succ, List.getElem?_nil, List.set_cons_zero, List.set_cons_succ, Nat.reduceAdd, Nat.reduceSub, Nat.reduceEqDiff, if_true, if_false, if_pos rfl, reduceIte, asg_nm, bYes, he, hl]
    rw [ih, List.append_assoc]
    rfl
theorem run_peak (h : Hh) {sl : Int} (h1 : 1 ≤ sl) (h2 : sl ≤ 20) {p : List Int} (hne : p ≠ []) (hb : ∀ k ∈ p, 0 ≤ k ∧ k < sl) (ha : p.Pairwise (· < ·)) (hz : p.length ≤ 20) (w : PV) :
    r_read_peak [.lst (w :: p.map fun k => .str (nS k)), .int sl] h = .ok (.tup (.str "peak" :: p.map .int)) h := by
  have hl := loop_pk h h1 h2 (some (.lst (w :: p.map fun k => .str (nS k)))) none p [] none hb (by simp only [List.length_nil]; omega)
  rw [List.nil_append] at hl
  have hsl : iLst (xSl gSlL (xVar 0) (pSome (xC (.int 1))) (pNone)) [some (.lst (w :: p.map fun k => .str (nS k))), some (.int sl), none, none] h = .ok (p.map fun k => .str (nS k)) h := by
    unfold iLst xSl pSome pNone
    simp only [runF, startS, sSeq, sSet, sRet, sRetN, sIf, sDrop, sAsg, sNext, sNever, sAug, asg_nm, asg_2, asg_3, asg_4, xVar, xC, aNil, aCons, xOp, xCall, xMt, xTup, xLst, xIf, xAnd, xOr, xNot, bOf, bTru, bAnd, bOr, bNot, bYes, gI2, gAdd, gSub, gLt, gLe, gGt, gGe, gIxT, gLen, gMin2, gMax2, gIsN, Rs.bind_ok, Rs.bind_exc, Rs.toS_ok, Rs.toS_exc, List.map_cons, List.map_nil, List.length_cons, List.length_nil, List.replicate, List.cons_append, List.nil_append, List.getElem?_cons_zero, List.getElem?_cons_succ, List.getElem?_nil, List.set_cons_zero, List.set_cons_succ, Nat.reduceAdd, Nat.reduceSub, Nat.reduceEqDiff, if_true, if_false, if_pos rfl, reduceIte, decide_true, decide_false, Bool.not_true, Bool.not_false, sizeLine_eq, Nat.reduceLeDiff, eqd_int, xFld, Bool.true_eq_false, Bool.false_eq_true, ite_toS, ite_bind, gSlL, asL, cut1]
  have hlc : xLc (iLst (xSl gSlL (xVar 0) (pSome (xC (.int 1))) (pNone))) (.nm 3) (bYes) ePk [3] [some (.lst (w :: p.map fun k => .str (nS k))), some (.int sl), none, none] h = .ok (.lst (p.map .int)) h := by
    unfold xLc
    rw [hsl]
    simp only [Rs.bind_ok, Rs.bind_exc, Rs.toS_ok, Rs.toS_exc, List.map_cons, List.map_nil, List.length_cons, List.length_nil, List.replicate, List.cons_append, List.nil_append, List.getElem?_cons_zero, List.getElem?_cons_succ, List.getElem?_nil, List.set_cons_zero, List.set_cons_succ, Nat.reduceAdd, Nat.reduceSub, Nat.reduceEqDiff, if_true, if_false, if_pos rfl, reduceIte, wipeS, hl]
  have hss : xSortSet (aCons (xVar 2) (aNil)) [some (.lst (w :: p.map fun k => .str (nS k))), some (.int sl), some (.lst (p.map .int)), none] h = .ok (.lst (p.map .int)) h := by
    unfold xSortSet
    simp only [runF, startS, sSeq, sSet, sRet, sRetN, sIf, sDrop, sAsg, sNext, sNever, sAug, asg_nm, asg_2, asg_3, asg_4, xVar, xC, aNil, aCons, xOp, xCall, xMt, xTup, xLst, xIf, xAnd, xOr, xNot, bOf, bTru, bAnd, bOr, bNot, bYes, gI2, gAdd, gSub, gLt, gLe, gGt, gGe, gIxT, gLen, gMin2, gMax2, gIsN, Rs.bind_ok, Rs.bind_exc, Rs.toS_ok, Rs.toS_exc, List.map_cons, List.map_nil, List.length_cons, List.length_nil, List.replicate, List.cons_append, List.nil_append, List.getElem?_cons_zero, List.getElem?_cons_succ, List.getElem?_nil, List.set_cons_zero, List.set_cons_succ, Nat.reduceAdd, Nat.reduceSub, Nat.reduceEqDiff, if_true, if_false, if_pos rfl, reduceIte, decide_true, decide_false, Bool.not_true, Bool.not_false, sizeLine_eq, Nat.reduceLeDiff, eqd_int, xFld, Bool.true_eq_false, Bool.false_eq_true, ite_toS, ite_bind, asLm, Option.bind_some, ints_map, sortD_asc ha]
    rw [if_pos ⟨by show p.length + 1 < 4096; omega, by omega⟩]
  have hni := none_in p h
  have heq := eqd_ints true p p h
  rw [decide_eq_true rfl] at heq
  have htr : truG (.lst (p.map .int)) h = some true := by
    show some (!(p.map PV.int).isEmpty) = _
    cases p with
    | nil => exact absurd rfl hne
    | cons a r => rfl
  have hcond : bOr (bNot (bTru (xVar 2))) (bOr (bOf (xOp (gIn false) (xC .non) (xVar 2))) (bOf (xOp (gEqD true) (xVar 2) (xSortSet (aCons (xVar 2) (aNil)))))) [some (.lst (w :: p.map fun k => .str (nS k))), some (.int sl), some (.lst (p.map .int)), none] h = .ok false h := by
    simp only [runF, startS, sSeq, sSet, sRet, sRetN, sIf, sDrop, sAsg, sNext, sNever, sAug, asg_nm, asg_2, asg_3, asg_4, xVar, xC, aNil, aCons, xOp, xCall, xMt, xTup, xLst, xIf, xAnd, xOr, xNot, bOf, bTru, bAnd, bOr, bNot, bYes, gI2, gAdd, gSub, gLt, gLe, gGt, gGe, gIxT, gLen, gMin2, gMax2, gIsN, Rs.bind_ok, Rs.bind_exc, Rs.toS_ok, Rs.toS_exc, List.map_cons, List.map_nil, List.length_cons, List.length_nil, List.replicate, List.cons_append, List.nil_append, List.getElem?_cons_zero, List.getElem?_cons_succ, List.getElem?_nil, List.set_cons_zero, List.set_cons_succ, Nat.reduceAdd, Nat.reduceSub, Nat.reduceEqDiff, if_true, if_false, if_pos rfl, reduceIte, decide_true, decide_false, Bool.not_true, Bool.not_false, sizeLine_eq, Nat.reduceLeDiff, eqd_int, xFld, Bool.true_eq_false, Bool.false_eq_true, ite_toS, ite_bind, htr, hni, hss, heq]
  have hcat : gCatL (.lst [.str "peak"]) (.lst (p.map .int)) h = .ok (.lst (.str "peak" :: p.map .int)) h := by
    unfold gCatL asLm
    dsimp only
    rw [if_pos (by rw [sizeLine_eq, List.length_map]; simp only [List.length_cons, List.length_nil]; omega)]
    rfl
  have hret : xCall gTupO (aCons (xOp gCatL (xLst (aCons (xC (.str "peak")) (aNil))) (xVar 2)) (aNil)) [some (.lst (w :: p.map fun k => .str (nS k))), some (.int sl), some (.lst (p.map .int)), none] h = .ok (.tup (.str "peak" :: p.map .int)) h := by
    simp only [runF, startS, sSeq, sSet, sRet, sRetN, sIf, sDrop, sAsg, sNext, sNever, sAug, asg_nm, asg_2, asg_3, asg_4, xVar, xC, aNil, aCons, xOp, xCall, xMt, xTup, xLst, xIf, xAnd, xOr, xNot, bOf, bTru, bAnd, bOr, bNot, bYes, gI2, gAdd, gSub, gLt, gLe, gGt, gGe, gIxT, gLen, gMin2, gMax2, gIsN, Rs.bind_ok, Rs.bind_exc, Rs.toS_ok, Rs.toS_exc, List.map_cons, List.map_nil, List.length_cons, List.length_nil, List.replicate, List.cons_append, List.nil_append, List.getElem?_cons_zero, List.getElem?_cons_succ, List.getElem?_nil, List.set_cons_zero, List.set_cons_succ, Nat.reduceAdd, Nat.reduceSub, Nat.reduceEqDiff, if_true, if_false, if_pos rfl, reduceIte, decide_true, decide_false, Bool.not_true, Bool.not_false, sizeLine_eq, Nat.reduceLeDiff, eqd_int, xFld, Bool.true_eq_false, Bool.false_eq_true, ite_toS, ite_bind, hcat, gTupO, asL]
  rw [peak_def]
  simp only [Rs.bind_ok, Rs.bind_exc, Rs.toS_ok, Rs.toS_exc, List.map_cons, List.map_nil, List.length_cons, List.length_nil, List.replicate, List.cons_append, List.nil_append, List.getElem?_cons_zero, List.getElem?_cons_succ, List.getElem?_nil, List.set_cons_zero, List.set_cons_succ, Nat.reduceAdd, Nat.reduceSub, Nat.reduceEqDiff, if_true, if_false, if_pos rfl, reduceIte, runF, startS, sSeq, sSet, hlc, sIf, hcond, sNext, sRet, hret, Bool.false_eq_true]

/-! ### the row of a ride -/
theorem lt_one (a b : Nat) : decide ((ch a).cps.toList < (ch b).cps.toList) = decide (a < b) := by
  show decide ([a] < [b]) = _
  by_cases h : a < b
  · rw [decide_eq_true h]
    exact decide_eq_true (List.Lex.rel h)
  · rw [decide_eq_false h]
    refine decide_eq_false fun z => ?_
    cases z with
    | rel r => exact h r
    | cons r => cases r
theorem run_kind (h : Hh) {c : Nat} (h1 : 97 ≤ c) (h2 : c ≤ 122) : r_is_kind [.str (ch c)] h = .ok (.bl true) h := by
  have hl : (ch c).length = 1 := rfl
  have ha : ("a" : Str) = ch 97 := by decide +kernel
  have hz : ("z" : Str) = ch 122 := by decide +kernel
  have e1 := eqd_int false 1 1 h
  have g1 : gLeS (.str (ch 97)) (.str (ch c)) h = .ok (.bl true) h := by
    show Rs.ok (PV.bl (!decide ((ch c).cps.toList < (ch 97).cps.toList))) h = _
    rw [lt_one, decide_eq_false (by omega)]
    rfl
  have g2 : gLeS (.str (ch c)) (.str (ch 122)) h = .ok (.bl true) h := by
    show Rs.ok (PV.bl (!decide ((ch 122).cps.toList < (ch c).cps.toList))) h = _
    rw [lt_one, decide_eq_false (by omega)]
    rfl
  have hd : decide (((1 : Nat) : Int) = 1) = true := rfl
  unfold r_is_kind
  simp only [runF, startS, sSeq, sSet, sRet, sRetN, sIf, sDrop, sAsg, sNext, sNever, sAug, asg_nm, asg_2, asg_3, asg_4, xVar, xC, aNil, aCons, xOp, xCall, xMt, xTup, xLst, xIf, xAnd, xOr, xNot, bOf, bTru, bAnd, bOr, bNot, bYes, gI2, gAdd, gSub, gLt, gLe, gGt, gGe, gIxT, gLen, gMin2, gMax2, gIsN, Rs.bind_ok, Rs.bind_exc, Rs.toS_ok, Rs.toS_exc, List.map_cons, List.map_nil, List.length_cons, List.length_nil, List.replicate, List.cons_append, List.nil_append, List.getElem?_cons_zero, List.getElem?_cons_succ, List.getElem?_nil, List.set_cons_zero, List.set_cons_succ, Nat.reduceAdd, Nat.reduceSub, Nat.reduceEqDiff, if_true, if_false, if_pos rfl, reduceIte, decide_true, decide_false, Bool.not_true, Bool.not_false, sizeLine_eq, Nat.reduceLeDiff, eqd_int, xFld, Bool.true_eq_false, Bool.false_eq_true, ite_toS, ite_bind, ha, hz, hl, xChain, g1, g2, hd]
abbrev ftK : Eb := bOf (xOp (gEqD false) (xOp gIxT (xVar 3) (xC (.int 0))) (xC (.str "ride")))
/-- the letters of the rides so far -/
def kindsP (l : List Row) : List PV := l.filterMap fun r => if r.1 = ("ride" : Str) then r.2[0]? else none
theorem loop_K (h : Hh) {n : Nat} {rows : List Row} (hn : h[n]? = some (.lst (rows.map rowP))) (ho : ∀ r ∈ rows, PyData.strOk r.1 = true) (hr : ∀ r ∈ rows, r.1 = ("ride" : Str) → r.2[0]?.isSome = true) (hz : rows.length ≤ 1000) (s0 s1 s2 : Option PV) : ∀ (m k : Nat) (acc : List PV) (s3 : Option PV), rows.length - k < m → acc.length ≤ k → k ≤ rows.length →
    lcD (.nm 3) ftK (xOp gIxT (xVar 3) (xC (.int 1))) [s0, s1, s2, s3] n m k acc h = .ok (acc ++ kindsP (rows.drop k)) h
  | 0, k, acc, s3, hm, hk, hk2 => absurd hm (by omega)
  | m + 1, k, acc, s3, hm, hk, hk2 => by
    rw [lcD, hn]
    dsimp only
    rw [List.getElem?_map]
    cases e : rows[k]? with
    | none =>
      have := List.getElem?_eq_none_iff.mp e
      rw [List.drop_eq_nil_of_le this]
      show Rs.ok acc h = Rs.ok (acc ++ []) h
      rw [List.append_nil]
    | some r =>
      have hlt := (List.getElem?_eq_some_iff.mp e).1
      have hmem := List.mem_of_getElem? e
      have hdrop : rows.drop k = r :: rows.drop (k + 1) := by
        have := (List.getElem?_eq_some_iff.mp e).2
        rw [← this, List.drop_eq_getElem_cons hlt]
      have hf := ft_row h s0 s1 s2 r (ho r hmem)
      dsimp only [Option.map_some]
      rw [asg_nm]
      simp only [Rs.bind_ok, Rs.bind_exc, Rs.toS_ok, Rs.toS_exc, List.map_cons, List.map_nil, List.length_cons, List.length_nil, List.replicate, List.cons_append, List.nil_append, List.getElem?_cons_zero, List.getElem?_cons_succ, List.getElem?_nil, List.set_cons_zero, List.set_cons_succ, Nat.reduceAdd, Nat.reduceSub, Nat.reduceEqDiff, if_true, if_false, if_pos rfl, reduceIte]
      by_cases hw : r.1 = ("ride" : Str)
      · rw [decide_eq_true hw] at hf
        obtain ⟨v, hv⟩ := Option.isSome_iff_exists.mp (hr r hmem hw)
        have hv2 : xOp gIxT (xVar 3) (xC (.int 1)) [s0, s1, s2, some (rowP r)] h = .ok v h := by
          have : atI (.str r.1 :: r.2) 1 = some v := atI_nat (k := 1) hv
          unfold rowP
          simp only [runF, startS, sSeq, sSet, sRet, sRetN, sIf, sDrop, sAsg, sNext, sNever, sAug, asg_nm, asg_2, asg_3, asg_4, xVar, xC, aNil, aCons, xOp, xCall, xMt, xTup, xLst, xIf, xAnd, xOr, xNot, bOf, bTru, bAnd, bOr, bNot, bYes, gI2, gAdd, gSub, gLt, gLe, gGt, gGe, gIxT, gLen, gMin2, gMax2, gIsN, Rs.bind_ok, Rs.bind_exc, Rs.toS_ok, Rs.toS_exc, List.map_cons, List.map_nil, List.length_cons, List.length_nil, List.replicate, List.cons_append, List.nil_append, List.getElem?_cons_zero, List.getElem?_cons_succ, List.getElem?_nil, List.set_cons_zero, List.set_cons_succ, Nat.reduceAdd, Nat.reduceSub, Nat.reduceEqDiff, if_true, if_false, if_pos rfl, reduceIte, decide_true, decide_false, Bool.not_true, Bool.not_false, sizeLine_eq, Nat.reduceLeDiff, eqd_int, xFld, Bool.true_eq_false, Bool.false_eq_true, ite_toS, ite_bind, this]
        have hl : acc.length < sizeLine := by rw [sizeLine_eq]; omega
        have ih := loop_K h hn ho hr hz s0 s1 s2 m (k + 1) (acc ++ [v]) s3 (by omega) (by simp only [List.length_append, List.length_cons, List.length_nil]; omega) (by omega)
        simp only [Rs.bind_ok, Rs.bind_exc, Rs.toS_ok, Rs.toS_exc, List.map_cons, List.map_nil, List.length_cons, List.length_nil, List.replicate, List.cons_append, List.nil_append, List.getElem?_cons_zero, List.getElem?_cons_succ, List.getElem?_nil, List.set_cons_zero, List.set_cons_succ, Nat.reduceAdd, Nat.reduceSub, Nat.reduceEqDiff, if_true, if_false, if_pos rfl, reduceIte, hf, hv2, hl]
        rw [ih, List.append_assoc, hdrop]
        unfold kindsP
        rw [List.filterMap_cons, if_pos hw, hv]
        rfl
      · rw [decide_eq_false hw] at hf
        have ih := loop_K h hn ho hr hz s0 s1 s2 m (k + 1) acc s3 (by omega) (by omega) (by omega)
        simp only [Rs.bind_ok, Rs.bind_exc, Rs.toS_ok, Rs.toS_exc, List.map_cons, List.map_nil, List.length_cons, List.length_nil, List.replicate, List.cons_append, List.nil_append, List.getElem?_cons_zero, List.getElem?_cons_succ, List.getElem?_nil, List.set_cons_zero, List.set_cons_succ, Nat.reduceAdd, Nat.reduceSub, Nat.reduceEqDiff, if_true, if_false, if_pos rfl, reduceIte, hf]
        rw [ih, hdrop]
        unfold kindsP
        rw [List.filterMap_cons, if_neg hw]
end TR

set_option Elab.async false
set_option linter.all false
set_option maxRecDepth 100000
set_option maxHeartbeats 4000000
namespace TR
open PySem PySem.Spec L2
open SX (S)

/-! ### a row -/
theorem ride_def : r_read_ride = runF 2 4 (sSeq (sSet 2 (xLcD 1000000 (xVar 1) (.nm 3) ftK (xOp gIxT (xVar 3) (xC (.int 1))) [3])) (sSeq (sIf (bOr (bOf (xOp (gEqD false) (xCall gLen (aCons (xVar 2) (aNil))) (xC (.int 3)))) (bOr (bOf (xOp gLt (xCall gLen (aCons (xVar 0) (aNil))) (xC (.int 2)))) (bNot (bOf (xCall r_is_kind (aCons (xOp gIxL (xVar 0) (xC (.int 1))) (aNil))))))) (sRet (xC .non)) (sNext)) (sSeq (sIf (bAnd (bTru (xVar 2)) (bOf (xOp gLeS (xOp gIxL (xVar 0) (xC (.int 1))) (xOp gIxL (xVar 2) (xNeg (xC (.int 1))))))) (sRet (xC .non)) (sNext)) (sRet (xCall r_read_numbers (aCons (xVar 0) (aCons (xC (.int 2)) (aNil)))))))) := rfl
/-- what stands ahead, at the id n -/
structure Bef (h : Hh) (n : Nat) (rows : List Row) : Prop where
  at_ : h[n]? = some (.lst (rows.map rowP))
  ok : ∀ r ∈ rows, PyData.strOk r.1 = true
  ride : ∀ r ∈ rows, r.1 = ("ride" : Str) → r.2[0]?.isSome = true
  len : rows.length ≤ 100
theorem atI_last {l : List PV} {v : PV} (h : l.getLast? = some v) : atI l (-1) = some v := by
  have hne : l ≠ [] := by rintro rfl; cases h
  have hp : 0 < l.length := List.length_pos_iff.mpr hne
  have e : (-1 + (l.length : Int)).toNat = l.length - 1 := by omega
  unfold atI ixN
  rw [if_neg (by decide), if_pos (by omega), Option.bind_some, e, ← List.getLast?_eq_getElem?, h]
theorem look_bounds : tab_BOUNDS.lookup ("slots" : Str) = some (.tup ([(1, 8)].map bP)) ∧ tab_BOUNDS.lookup ("ride" : Str) = some (.tup ([(0, 20), (0, 20)].map bP)) ∧ tab_BOUNDS.lookup ("transfer" : Str) = some (.tup ([(0, 4), (0, 20)].map bP)) ∧ tab_BOUNDS.lookup ("cap" : Str) = some (.tup ([(0, 20)].map bP)) ∧ tab_BOUNDS.lookup ("bonus" : Str) = some (.tup ([(2, 4)].map bP)) := ⟨rfl, rfl, rfl, rfl, rfl⟩
/-- the kinds ahead: the last one below c -/
def KindsOk (l : List PV) (c : Nat) : Prop := l = [] ∨ ∃ k, l.getLast? = some (.str (ch k)) ∧ k < c
theorem run_rride {h : Hh} {n : Nat} {rows : List Row} (B : Bef h n rows) {c : Nat} (h1 : 97 ≤ c) (h2 : c ≤ 122) {p q : Int} (hp : Sm p) (hq : Sm q) (hl : (kindsP rows).length < 3) (hk : KindsOk (kindsP rows) c) :
    r_read_ride [.lst [.str "ride", .str (ch c), .str (nS p), .str (nS q)], .ref n] h = .ok (rowP (rRide (c, p, q))) h := by
  have hlk := loop_K h B.at_ B.ok B.ride (by have := B.len; omega) (some (.lst [.str "ride", .str (ch c), .str (nS p), .str (nS q)])) (some (.ref n)) none 1000000 0 [] none (by have := B.len; omega) (Nat.le_refl _) (Nat.zero_le _)
  rw [List.nil_append, List.drop_zero] at hlk
  have hlc : xLcD 1000000 (xVar 1) (.nm 3) ftK (xOp gIxT (xVar 3) (xC (.int 1))) [3] [some (.lst [.str "ride", .str (ch c), .str (nS p), .str (nS q)]), some (.ref n), none, none] h = .ok (.lst (kindsP rows)) h := by
    unfold xLcD
    simp only [Rs.bind_ok, Rs.bind_exc, Rs.toS_ok, Rs.toS_exc, List.map_cons, List.map_nil, List.length_cons, List.length_nil, List.replicate, List.cons_append, List.nil_append, List.getElem?_cons_zero, List.getElem?_cons_succ, List.getElem?_nil, List.set_cons_zero, List.set_cons_succ, Nat.reduceAdd, Nat.reduceSub, Nat.reduceEqDiff, if_true, if_false, if_pos rfl, reduceIte, xVar, wipeS, hlk]
  have ek := run_kind h h1 h2
  have e3 := eqd_int false ((kindsP rows).length : Int) 3 h
  rw [decide_eq_false (by omega)] at e3
  have hn := run_numbers h (ws := [.str "ride", .str (ch c), .str (nS p), .str (nS q)]) (pw := [.str "ride", .str (ch c)]) (ks := [p, q]) (n := 2) look_bounds.2.1 (.cons (by decide) (by decide) hp.1 hp.2 (.cons (by decide) (by decide) hq.1 hq.2 .nil)) rfl rfl (atI0 _ _) (by decide) (by show 2 ≤ 10; decide)
  change r_read_numbers [.lst [.str "ride", .str (ch c), .str (nS p), .str (nS q)], .int 2] h = .ok (.tup [.str "ride", .str (ch c), .int p, .int q]) h at hn
  have hc2 : bAnd (bTru (xVar 2)) (bOf (xOp gLeS (xOp gIxL (xVar 0) (xC (.int 1))) (xOp gIxL (xVar 2) (xNeg (xC (.int 1)))))) [some (.lst [.str "ride", .str (ch c), .str (nS p), .str (nS q)]), some (.ref n), some (.lst (kindsP rows)), none] h = .ok false h := by
    rcases hk with hk | ⟨k, hk, hkc⟩
    · rw [hk]
      rfl
    · have hne : (kindsP rows).isEmpty = false := by
        cases e : kindsP rows with
        | nil => rw [e] at hk; cases hk
        | cons a r => rfl
      have ht : truG (.lst (kindsP rows)) h = some true := by
        show some (!(kindsP rows).isEmpty) = _
        rw [hne]
        rfl
      have hg : gLeS (.str (ch c)) (.str (ch k)) h = .ok (.bl false) h := by
        show Rs.ok (PV.bl (!decide ((ch k).cps.toList < (ch c).cps.toList))) h = _
        rw [lt_one, decide_eq_true hkc]
        rfl
      have hlast := atI_last hk
      simp only [runF, startS, sSeq, sSet, sRet, sRetN, sIf, sDrop, sAsg, sNext, sNever, sAug, asg_nm, asg_2, asg_3, asg_4, xVar, xC, aNil, aCons, xOp, xCall, xMt, xTup, xLst, xIf, xAnd, xOr, xNot, bOf, bTru, bAnd, bOr, bNot, bYes, gI2, gAdd, gSub, gLt, gLe, gGt, gGe, gIxT, gLen, gMin2, gMax2, gIsN, Rs.bind_ok, Rs.bind_exc, Rs.toS_ok, Rs.toS_exc, List.map_cons, List.map_nil, List.length_cons, List.length_nil, List.replicate, List.cons_append, List.nil_append, List.getElem?_cons_zero, List.getElem?_cons_succ, List.getElem?_nil, List.set_cons_zero, List.set_cons_succ, Nat.reduceAdd, Nat.reduceSub, Nat.reduceEqDiff, if_true, if_false, if_pos rfl, reduceIte, decide_true, decide_false, Bool.not_true, Bool.not_false, sizeLine_eq, Nat.reduceLeDiff, eqd_int, xFld, Bool.true_eq_false, Bool.false_eq_true, ite_toS, ite_bind, ht, gIxL, asL, atI1, xNeg, hlast, hg]
  have hc1 : bOr (bOf (xOp (gEqD false) (xCall gLen (aCons (xVar 2) (aNil))) (xC (.int 3)))) (bOr (bOf (xOp gLt (xCall gLen (aCons (xVar 0) (aNil))) (xC (.int 2)))) (bNot (bOf (xCall r_is_kind (aCons (xOp gIxL (xVar 0) (xC (.int 1))) (aNil)))))) [some (.lst [.str "ride", .str (ch c), .str (nS p), .str (nS q)]), some (.ref n), some (.lst (kindsP rows)), none] h = .ok false h := by
    have hn4 : ¬ (((4 : Nat) : Int) < 2) := by decide
    have e3' : decide (((kindsP rows).length : Int) = 3) = false := decide_eq_false (by omega)
    simp only [runF, startS, sSeq, sSet, sRet, sRetN, sIf, sDrop, sAsg, sNext, sNever, sAug, asg_nm, asg_2, asg_3, asg_4, xVar, xC, aNil, aCons, xOp, xCall, xMt, xTup, xLst, xIf, xAnd, xOr, xNot, bOf, bTru, bAnd, bOr, bNot, bYes, gI2, gAdd, gSub, gLt, gLe, gGt, gGe, gIxT, gLen, gMin2, gMax2, gIsN, Rs.bind_ok, Rs.bind_exc, Rs.toS_ok, Rs.toS_exc, List.map_cons, List.map_nil, List.length_cons, List.length_nil, List.replicate, List.cons_append, List.nil_append, List.getElem?_cons_zero, List.getElem?_cons_succ, List.getElem?_nil, List.set_cons_zero, List.set_cons_succ, Nat.reduceAdd, Nat.reduceSub, Nat.reduceEqDiff, if_true, if_false, if_pos rfl, reduceIte, decide_true, decide_false, Bool.not_true, Bool.not_false, sizeLine_eq, Nat.reduceLeDiff, eqd_int, xFld, Bool.true_eq_false, Bool.false_eq_true, ite_toS, ite_bind, asL, e3', hn4, gIxL, atI1, ek]
  rw [ride_def]
  simp only [Rs.bind_ok, Rs.bind_exc, Rs.toS_ok, Rs.toS_exc, List.map_cons, List.map_nil, List.length_cons, List.length_nil, List.replicate, List.cons_append, List.nil_append, List.getElem?_cons_zero, List.getElem?_cons_succ, List.getElem?_nil, List.set_cons_zero, List.set_cons_succ, Nat.reduceAdd, Nat.reduceSub, Nat.reduceEqDiff, if_true, if_false, if_pos rfl, reduceIte, runF, startS, sSeq, sSet, hlc, sIf, hc1, hc2, sNext, sRet, Bool.false_eq_true, xCall, aCons, xVar, xC, aNil, hn]
  rfl
def rowDef : r_read_row = runF 2 3 (sSeq (sSet 2 (xIf (bTru (xVar 1)) (xOp gIxT (xOp gIxL (xVar 1) (xNeg (xC (.int 1)))) (xC (.int 0))) (xC (.str "")))) (sSeq (sIf (bOf (xOp (gIn true) (xOp gIxL (xVar 0) (xC (.int 0))) (xTab tab_FOLLOWERS (xVar 2)))) (sRet (xC .non)) (sNext)) (sSeq (sIf (bOf (xOp (gEqD false) (xOp gIxL (xVar 0) (xC (.int 0))) (xC (.str "peak")))) (sRet (xCall r_read_peak (aCons (xVar 0) (aCons (xOp gIxT (xOp gIxL (xVar 1) (xC (.int 0))) (xC (.int 1))) (aNil))))) (sNext)) (sSeq (sIf (bOf (xOp (gEqD false) (xOp gIxL (xVar 0) (xC (.int 0))) (xC (.str "ride")))) (sRet (xCall r_read_ride (aCons (xVar 0) (aCons (xVar 1) (aNil))))) (sNext)) (sRet (xCall r_read_numbers (aCons (xVar 0) (aCons (xC (.int 1)) (aNil))))))))) := rfl
def lastW (rows : List Row) : Str := match rows.getLast? with
  | some r => r.1
  | none => ""
theorem in_strs (w : Str) (l : List Str) (h : Hh) (hm : w ∈ l) : gIn true (.str w) (.tup (l.map .str)) h = .ok (.bl false) h := by
  have hf : (l.map PV.str).all flatP = true := List.all_eq_true.mpr fun v hv => by
    obtain ⟨j, _, rfl⟩ := List.mem_map.mp hv
    rfl
  have hi : inP (.str w) (l.map .str) = true := List.any_eq_true.mpr ⟨.str w, List.mem_map_of_mem hm, beq_self_eq_true w⟩
  show (if flatP (.str w) = true ∧ (l.map PV.str).all flatP = true then Rs.ok (PV.bl (!inP (.str w) (l.map .str))) h else .bad) = _
  rw [if_pos ⟨rfl, hf⟩, hi]
  rfl
section
variable {h : Hh} {n : Nat} {rows : List Row} {w : Str} {ws : List PV}
/-- the first word may stand here; what is asked then -/
theorem run_row (B : Bef h n rows) (h0 : atI ws 0 = some (.str w)) (hw : PyData.strOk w = true) {fl : List Str} (hf : tab_FOLLOWERS.lookup (lastW rows) = some (.tup (fl.map .str))) (hm : w ∈ fl) :
    r_read_row [.lst ws, .ref n] h = if w = ("peak" : Str) then (match rows.head? with
      | some r => (match atI (.str r.1 :: r.2) 1 with
        | some v => r_read_peak [.lst ws, v] h
        | none => .bad)
      | none => .bad) else if w = ("ride" : Str) then r_read_ride [.lst ws, .ref n] h else r_read_numbers [.lst ws, .int 1] h := by
  have hpk : PyData.strOk ("peak" : Str) = true := by decide +kernel
  have e1 := eqd_str false w "peak" h hw hpk
  have e2 := eqd_str false w "ride" h hw rideOk
  have hin := in_strs w fl h hm
  have ha : asL (.ref n) h = some (rows.map rowP) := by
    unfold asL
    dsimp only
    rw [B.at_]
  have hlast : xIf (bTru (xVar 1)) (xOp gIxT (xOp gIxL (xVar 1) (xNeg (xC (.int 1)))) (xC (.int 0))) (xC (.str "")) [some (.lst ws), some (.ref n), none] h = .ok (.str (lastW rows)) h := by
    have ht : truG (.ref n) h = some (!(rows.map rowP).isEmpty) := by
      unfold truG
      dsimp only
      rw [B.at_]
    unfold lastW
    cases e : rows.getLast? with
    | none =>
      have := List.getLast?_eq_none_iff.mp e
      subst this
      change truG (.ref n) h = some false at ht
      simp only [runF, startS, sSeq, sSet, sRet, sRetN, sIf, sDrop, sAsg, sNext, sNever, sAug, asg_nm, asg_2, asg_3, asg_4, xVar, xC, aNil, aCons, xOp, xCall, xMt, xTup, xLst, xIf, xAnd, xOr, xNot, bOf, bTru, bAnd, bOr, bNot, bYes, gI2, gAdd, gSub, gLt, gLe, gGt, gGe, gIxT, gLen, gMin2, gMax2, gIsN, Rs.bind_ok, Rs.bind_exc, Rs.toS_ok, Rs.toS_exc, List.map_cons, List.map_nil, List.length_cons, List.length_nil, List.replicate, List.cons_append, List.nil_append, List.getElem?_cons_zero, List.getElem?_cons_succ, List.getElem?_nil, List.set_cons_zero, List.set_cons_succ, Nat.reduceAdd, Nat.reduceSub, Nat.reduceEqDiff, if_true, if_false, if_pos rfl, reduceIte, decide_true, decide_false, Bool.not_true, Bool.not_false, sizeLine_eq, Nat.reduceLeDiff, eqd_int, xFld, Bool.true_eq_false, Bool.false_eq_true, ite_toS, ite_bind, ht]
    | some r =>
      have hne : rows ≠ [] := by rintro rfl; cases e
      have hte : (rows.map rowP).isEmpty = false := by
        cases rows with
        | nil => exact absurd rfl hne
        | cons a t => rfl
      rw [hte] at ht
      have hl : (rows.map rowP).getLast? = some (rowP r) := by rw [List.getLast?_map, e]; rfl
      have hat := atI_last hl
      have hrp : rowP r = .tup (.str r.1 :: r.2) := rfl
      simp only [runF, startS, sSeq, sSet, sRet, sRetN, sIf, sDrop, sAsg, sNext, sNever, sAug, asg_nm, asg_2, asg_3, asg_4, xVar, xC, aNil, aCons, xOp, xCall, xMt, xTup, xLst, xIf, xAnd, xOr, xNot, bOf, bTru, bAnd, bOr, bNot, bYes, gI2, gAdd, gSub, gLt, gLe, gGt, gGe, gIxT, gLen, gMin2, gMax2, gIsN, Rs.bind_ok, Rs.bind_exc, Rs.toS_ok, Rs.toS_exc, List.map_cons, List.map_nil, List.length_cons, List.length_nil, List.replicate, List.cons_append, List.nil_append, List.getElem?_cons_zero, List.getElem?_cons_succ, List.getElem?_nil, List.set_cons_zero, List.set_cons_succ, Nat.reduceAdd, Nat.reduceSub, Nat.reduceEqDiff, if_true, if_false, if_pos rfl, reduceIte, decide_true, decide_false, Bool.not_true, Bool.not_false, sizeLine_eq, Nat.reduceLeDiff, eqd_int, xFld, Bool.true_eq_false, Bool.false_eq_true, ite_toS, ite_bind, ht, Bool.not_false, xNeg, gIxL, ha, hat, hrp, atI0]
  have htab : xTab tab_FOLLOWERS (xVar 2) [some (.lst ws), some (.ref n), some (.str (lastW rows))] h = .ok (.tup (fl.map .str)) h := by
    unfold xTab
    simp only [runF, startS, sSeq, sSet, sRet, sRetN, sIf, sDrop, sAsg, sNext, sNever, sAug, asg_nm, asg_2, asg_3, asg_4, xVar, xC, aNil, aCons, xOp, xCall, xMt, xTup, xLst, xIf, xAnd, xOr, xNot, bOf, bTru, bAnd, bOr, bNot, bYes, gI2, gAdd, gSub, gLt, gLe, gGt, gGe, gIxT, gLen, gMin2, gMax2, gIsN, Rs.bind_ok, Rs.bind_exc, Rs.toS_ok, Rs.toS_exc, List.map_cons, List.map_nil, List.length_cons, List.length_nil, List.replicate, List.cons_append, List.nil_append, List.getElem?_cons_zero, List.getElem?_cons_succ, List.getElem?_nil, List.set_cons_zero, List.set_cons_succ, Nat.reduceAdd, Nat.reduceSub, Nat.reduceEqDiff, if_true, if_false, if_pos rfl, reduceIte, decide_true, decide_false, Bool.not_true, Bool.not_false, sizeLine_eq, Nat.reduceLeDiff, eqd_int, xFld, Bool.true_eq_false, Bool.false_eq_true, ite_toS, ite_bind, hf]
  have hcond : bOf (xOp (gIn true) (xOp gIxL (xVar 0) (xC (.int 0))) (xTab tab_FOLLOWERS (xVar 2))) [some (.lst ws), some (.ref n), some (.str (lastW rows))] h = .ok false h := by
    simp only [runF, startS, sSeq, sSet, sRet, sRetN, sIf, sDrop, sAsg, sNext, sNever, sAug, asg_nm, asg_2, asg_3, asg_4, xVar, xC, aNil, aCons, xOp, xCall, xMt, xTup, xLst, xIf, xAnd, xOr, xNot, bOf, bTru, bAnd, bOr, bNot, bYes, gI2, gAdd, gSub, gLt, gLe, gGt, gGe, gIxT, gLen, gMin2, gMax2, gIsN, Rs.bind_ok, Rs.bind_exc, Rs.toS_ok, Rs.toS_exc, List.map_cons, List.map_nil, List.length_cons, List.length_nil, List.replicate, List.cons_append, List.nil_append, List.getElem?_cons_zero, List.getElem?_cons_succ, List.getElem?_nil, List.set_cons_zero, List.set_cons_succ, Nat.reduceAdd, Nat.reduceSub, Nat.reduceEqDiff, if_true, if_false, if_pos rfl, reduceIte, decide_true, decide_false, Bool.not_true, Bool.not_false, sizeLine_eq, Nat.reduceLeDiff, eqd_int, xFld, Bool.true_eq_false, Bool.false_eq_true, ite_toS, ite_bind, gIxL, asL, h0, htab, hin]
  have hcp : bOf (xOp (gEqD false) (xOp gIxL (xVar 0) (xC (.int 0))) (xC (.str "peak"))) [some (.lst ws), some (.ref n), some (.str (lastW rows))] h = .ok (decide (w = "peak")) h := by
    simp only [runF, startS, sSeq, sSet, sRet, sRetN, sIf, sDrop, sAsg, sNext, sNever, sAug, asg_nm, asg_2, asg_3, asg_4, xVar, xC, aNil, aCons, xOp, xCall, xMt, xTup, xLst, xIf, xAnd, xOr, xNot, bOf, bTru, bAnd, bOr, bNot, bYes, gI2, gAdd, gSub, gLt, gLe, gGt, gGe, gIxT, gLen, gMin2, gMax2, gIsN, Rs.bind_ok, Rs.bind_exc, Rs.toS_ok, Rs.toS_exc, List.map_cons, List.map_nil, List.length_cons, List.length_nil, List.replicate, List.cons_append, List.nil_append, List.getElem?_cons_zero, List.getElem?_cons_succ, List.getElem?_nil, List.set_cons_zero, List.set_cons_succ, Nat.reduceAdd, Nat.reduceSub, Nat.reduceEqDiff, if_true, if_false, if_pos rfl, reduceIte, decide_true, decide_false, Bool.not_true, Bool.not_false, sizeLine_eq, Nat.reduceLeDiff, eqd_int, xFld, Bool.true_eq_false, Bool.false_eq_true, ite_toS, ite_bind, gIxL, asL, h0, e1]
  have hcr : bOf (xOp (gEqD false) (xOp gIxL (xVar 0) (xC (.int 0))) (xC (.str "ride"))) [some (.lst ws), some (.ref n), some (.str (lastW rows))] h = .ok (decide (w = "ride")) h := by
    simp only [runF, startS, sSeq, sSet, sRet, sRetN, sIf, sDrop, sAsg, sNext, sNever, sAug, asg_nm, asg_2, asg_3, asg_4, xVar, xC, aNil, aCons, xOp, xCall, xMt, xTup, xLst, xIf, xAnd, xOr, xNot, bOf, bTru, bAnd, bOr, bNot, bYes, gI2, gAdd, gSub, gLt, gLe, gGt, gGe, gIxT, gLen, gMin2, gMax2, gIsN, Rs.bind_ok, Rs.bind_exc, Rs.toS_ok, Rs.toS_exc, List.map_cons, List.map_nil, List.length_cons, List.length_nil, List.replicate, List.cons_append, List.nil_append, List.getElem?_cons_zero, List.getElem?_cons_succ, List.getElem?_nil, List.set_cons_zero, List.set_cons_succ, Nat.reduceAdd, Nat.reduceSub, Nat.reduceEqDiff, if_true, if_false, if_pos rfl, reduceIte, decide_true, decide_false, Bool.not_true, Bool.not_false, sizeLine_eq, Nat.reduceLeDiff, eqd_int, xFld, Bool.true_eq_false, Bool.false_eq_true, ite_toS, ite_bind, gIxL, asL, h0, e2]
  have hx : gIxL (.lst ws) (.int 0) h = .ok (.str w) h := by
    unfold gIxL asL
    dsimp only
    rw [h0]
  rw [rowDef]
  by_cases hp : w = ("peak" : Str)
  · rw [decide_eq_true hp] at hcp
    rw [if_pos hp]
    simp only [Rs.bind_ok, Rs.bind_exc, Rs.toS_ok, Rs.toS_exc, List.map_cons, List.map_nil, List.length_cons, List.length_nil, List.replicate, List.cons_append, List.nil_append, List.getElem?_cons_zero, List.getElem?_cons_succ, List.getElem?_nil, List.set_cons_zero, List.set_cons_succ, Nat.reduceAdd, Nat.reduceSub, Nat.reduceEqDiff, if_true, if_false, if_pos rfl, reduceIte, runF, startS, sSeq, sSet, hlast, sIf, hcond, hcp, sNext, sRet, Bool.false_eq_true]
    have hix : xOp gIxT (xOp gIxL (xVar 1) (xC (.int 0))) (xC (.int 1)) [some (.lst ws), some (.ref n), some (.str (lastW rows))] h = (match rows.head? with
      | some r => (match atI (.str r.1 :: r.2) 1 with
        | some v => Rs.ok v h
        | none => .bad)
      | none => .bad) := by
      cases hr : rows with
      | nil =>
        rw [hr] at ha
        simp only [runF, startS, sSeq, sSet, sRet, sRetN, sIf, sDrop, sAsg, sNext, sNever, sAug, asg_nm, asg_2, asg_3, asg_4, xVar, xC, aNil, aCons, xOp, xCall, xMt, xTup, xLst, xIf, xAnd, xOr, xNot, bOf, bTru, bAnd, bOr, bNot, bYes, gI2, gAdd, gSub, gLt, gLe, gGt, gGe, gIxT, gLen, gMin2, gMax2, gIsN, Rs.bind_ok, Rs.bind_exc, Rs.toS_ok, Rs.toS_exc, List.map_cons, List.map_nil, List.length_cons, List.length_nil, List.replicate, List.cons_append, List.nil_append, List.getElem?_cons_zero, List.getElem?_cons_succ, List.getElem?_nil, List.set_cons_zero, List.set_cons_succ, Nat.reduceAdd, Nat.reduceSub, Nat.reduceEqDiff, if_true, if_false, if_pos rfl, reduceIte, decide_true, decide_false, Bool.not_true, Bool.not_false, sizeLine_eq, Nat.reduceLeDiff, eqd_int, xFld, Bool.true_eq_false, Bool.false_eq_true, ite_toS, ite_bind, gIxL, ha]
        all_goals rfl
      | cons r t =>
        rw [hr] at ha
        have hrp : rowP r = .tup (.str r.1 :: r.2) := rfl
        simp only [runF, startS, sSeq, sSet, sRet, sRetN, sIf, sDrop, sAsg, sNext, sNever, sAug, asg_nm, asg_2, asg_3, asg_4, xVar, xC, aNil, aCons, xOp, xCall, xMt, xTup, xLst, xIf, xAnd, xOr, xNot, bOf, bTru, bAnd, bOr, bNot, bYes, gI2, gAdd, gSub, gLt, gLe, gGt, gGe, gIxT, gLen, gMin2, gMax2, gIsN, Rs.bind_ok, Rs.bind_exc, Rs.toS_ok, Rs.toS_exc, List.map_cons, List.map_nil, List.length_cons, List.length_nil, List.replicate, List.cons_append, List.nil_append, List.getElem?_cons_zero, List.getElem?_cons_succ, List.getElem?_nil, List.set_cons_zero, List.set_cons_succ, Nat.reduceAdd, Nat.reduceSub, Nat.reduceEqDiff, if_true, if_false, if_pos rfl, reduceIte, decide_true, decide_false, Bool.not_true, Bool.not_false, sizeLine_eq, Nat.reduceLeDiff, eqd_int, xFld, Bool.true_eq_false, Bool.false_eq_true, ite_toS, ite_bind, gIxL, ha, atI0, hrp, List.head?_cons]
        all_goals rfl
    simp only [Rs.bind_ok, Rs.bind_exc, Rs.toS_ok, Rs.toS_exc, List.map_cons, List.map_nil, List.length_cons, List.length_nil, List.replicate, List.cons_append, List.nil_append, List.getElem?_cons_zero, List.getElem?_cons_succ, List.getElem?_nil, List.set_cons_zero, List.set_cons_succ, Nat.reduceAdd, Nat.reduceSub, Nat.reduceEqDiff, if_true, if_false, if_pos rfl, reduceIte, xCall, aCons, aNil, xVar, hix]
    cases rows.head? with
    | none => rfl
    | some r =>
      dsimp only
      cases atI (.str r.1 :: r.2) 1 with
      | none => rfl
      | some v =>
        simp only [Rs.bind_ok, Rs.bind_exc, Rs.toS_ok, Rs.toS_exc, List.map_cons, List.map_nil, List.length_cons, List.length_nil, List.replicate, List.cons_append, List.nil_append, List.getElem?_cons_zero, List.getElem?_cons_succ, List.getElem?_nil, List.set_cons_zero, List.set_cons_succ, Nat.reduceAdd, Nat.reduceSub, Nat.reduceEqDiff, if_true, if_false, if_pos rfl, reduceIte]
        cases r_read_peak [.lst ws, v] h <;> rfl
  · rw [decide_eq_false hp] at hcp
    rw [if_neg hp]
    by_cases hr : w = ("ride" : Str)
    · rw [decide_eq_true hr] at hcr
      rw [if_pos hr]
      simp only [Rs.bind_ok, Rs.bind_exc, Rs.toS_ok, Rs.toS_exc, List.map_cons, List.map_nil, List.length_cons, List.length_nil, List.replicate, List.cons_append, List.nil_append, List.getElem?_cons_zero, List.getElem?_cons_succ, List.getElem?_nil, List.set_cons_zero, List.set_cons_succ, Nat.reduceAdd, Nat.reduceSub, Nat.reduceEqDiff, if_true, if_false, if_pos rfl, reduceIte, runF, startS, sSeq, sSet, hlast, sIf, hcond, hcp, hcr, sNext, sRet, Bool.false_eq_true, xCall, aCons, aNil, xVar]
      cases r_read_ride [.lst ws, .ref n] h <;> rfl
    · rw [decide_eq_false hr] at hcr
      rw [if_neg hr]
      simp only [Rs.bind_ok, Rs.bind_exc, Rs.toS_ok, Rs.toS_exc, List.map_cons, List.map_nil, List.length_cons, List.length_nil, List.replicate, List.cons_append, List.nil_append, List.getElem?_cons_zero, List.getElem?_cons_succ, List.getElem?_nil, List.set_cons_zero, List.set_cons_succ, Nat.reduceAdd, Nat.reduceSub, Nat.reduceEqDiff, if_true, if_false, if_pos rfl, reduceIte, runF, startS, sSeq, sSet, hlast, sIf, hcond, hcp, hcr, sNext, sRet, Bool.false_eq_true, xCall, aCons, aNil, xVar, xC]
      cases r_read_numbers [.lst ws, .int 1] h <;> rfl
end
end TR

set_option Elab.async false
set_option linter.all false
set_option maxRecDepth 100000
set_option maxHeartbeats 4000000
namespace TR
open PySem PySem.Spec L2
open SX (S)

/-! ### texts of rows -/
def pvL : PV → List Nat
  | .int k => (nS k).cps.toList
  | .str x => x.cps.toList
  | _ => []
def wordsR (r : Row) : List (List Nat) := r.1.cps.toList :: r.2.map pvL
def wordsP (r : Row) : List PV := (wordsR r).map fun w => .str (S w)
def lineL (r : Row) : List Nat := TL.joinL [32] (wordsR r)
def textL (rs : List Row) : List Nat := TL.joinL [10] (rs.map lineL)
theorem split_at {s : Nat} {parts : List (List Nat)} (hs : s < 256) (hne : parts ≠ []) (hp : ∀ p ∈ parts, s ∉ p) : Txt.split (S (TL.joinL [s] parts)) (S [s]) = parts.map S := by
  rw [SX.split_S (List.cons_ne_nil _ _) (by simp [hs]), TL.spl_join hne hp]
theorem gsplit_at {s : Nat} {parts : List (List Nat)} (hs : s < 256) (hne : parts ≠ []) (hp : ∀ p ∈ parts, s ∉ p) (hz : (TL.joinL [s] parts).length ≤ 1000000) (h : Hh) :
    gSplit (.str (S (TL.joinL [s] parts))) [.str (S [s])] h = .ok (.lst (parts.map fun w => .str (S w))) h := by
  show (if ((S [s]).length == 0) = false ∧ (S (TL.joinL [s] parts)).length + 2 ≤ sizeLine then Rs.ok (PV.lst ((Txt.split (S (TL.joinL [s] parts)) (S [s])).map .str)) h else .bad) = _
  rw [if_pos ⟨rfl, by rw [SX.S_len, sizeLine_eq]; omega⟩, split_at hs hne hp, List.map_map]
  rfl
/-- the row is taken behind these -/
def Acc (before : List Row) (r : Row) : Prop := ∀ (h : Hh) (n : Nat), Bef h n before → r_read_row [.lst (wordsP r), .ref n] h = .ok (rowP r) h
/-- no blank, no line feed; short -/
structure Fine (r : Row) : Prop where
  w : ∀ x ∈ wordsR r, 32 ∉ x ∧ 10 ∉ x
  z : (lineL r).length ≤ 500
  ok : PyData.strOk r.1 = true
  ride : r.1 = ("ride" : Str) → r.2[0]?.isSome = true
inductive Good : List Row → List Row → Prop
  | nil {b} : Good b []
  | cons {b r rs} : Acc b r → Fine r → Good (b ++ [r]) rs → Good b (r :: rs)
theorem Good.app {b xs ys : List Row} (h1 : Good b xs) (h2 : Good (b ++ xs) ys) : Good b (xs ++ ys) := by
  induction h1 with
  | nil => rw [List.append_nil] at h2; exact h2
  | cons a f g ih =>
    rw [List.cons_append]
    refine .cons a f (ih ?_)
    rw [List.append_assoc]
    exact h2
def bRows : Sx := sSeq (sSet 3 (xCall r_read_row (aCons (xBM tStr gSplit (xVar 2) (aCons (xC (.str " ")) (aNil))) (aCons (xVar 1) (aNil))))) (sSeq (sIf (bOf (xOp (gIsN false) (xVar 3) (xC .non))) (sRaise 0 1 (r_copied 6) [("row", 1)] (aCons (xCall gLen (aCons (xVar 1) (aNil))) (aNil))) (sNext)) (sDrop (xBM tList gAppend (xVar 1) (aCons (xVar 3) (aNil)))))
theorem rows_def : r_read_rows = runF 1 4 (sSeq (sSet 1 (xLstI (aNil))) (sSeq (sFor (iLst (xBM tStr gSplit (xVar 0) (aCons (xC (.str "\n")) (aNil)))) (.nm 2) bRows) (sSeq (sIf (bOf (xOp (gIn false) (xOp gIxT (xOp gIxL (xVar 1) (xNeg (xC (.int 1)))) (xC (.int 0))) (xTup (aCons (xC (.str "slots")) (aCons (xC (.str "peak")) (aNil)))))) (sRaise 0 1 (r_copied 6) [("row", 1)] (aCons (xCall gLen (aCons (xVar 1) (aNil))) (aNil))) (sNext)) (sRet (xFrzA (xVar 1)))))) := rfl
theorem blank : (" " : Str) = S [32] ∧ ("\n" : Str) = S [10] := by decide +kernel
theorem line_ne (r : Row) : wordsR r ≠ [] := List.cons_ne_nil _ _
theorem turn_rows {h : Hh} {n : Nat} {before : List Row} {r : Row} (B : Bef h n before) (a : Acc before r) (f : Fine r) (s0 s3 : Option PV) :
    bRows [s0, some (.ref n), some (.str (S (lineL r))), s3] h = .nx [s0, some (.ref n), some (.str (S (lineL r))), some (rowP r)] (h.set n (.lst ((before ++ [r]).map rowP))) := by
  have hs := gsplit_at (s := 32) (by decide) (line_ne r) (fun p hp => (f.w p hp).1) (by have := f.z; unfold lineL at this; omega) h
  have hr := a h n B
  have hn : gIsN false (rowP r) .non h = .ok (.bl false) h := rfl
  have ht : tList (.ref n) h = true := by
    show (asL (.ref n) h).isSome = true
    unfold asL
    dsimp only
    rw [B.at_]
    rfl
  have hg : gAppend (.ref n) [rowP r] h = .ok .non (h.set n (.lst ((before ++ [r]).map rowP))) := by
    unfold gAppend
    dsimp only
    rw [B.at_]
    dsimp only
    rw [if_pos (by have := B.len; rw [List.length_map, sizeLine_eq]; omega), List.map_append]
    rfl
  have h1 : xCall r_read_row (aCons (xBM tStr gSplit (xVar 2) (aCons (xC (.str " ")) (aNil))) (aCons (xVar 1) (aNil))) [s0, some (.ref n), some (.str (S (lineL r))), s3] h = .ok (rowP r) h := by
    have hs2 : gSplit (.str (S (lineL r))) [.str (S [32])] h = .ok (.lst (wordsP r)) h := hs
    rw [blank.1]
    simp only [Rs.bind_ok, Rs.bind_exc, Rs.toS_ok, Rs.toS_exc, List.map_cons, List.map_nil, List.length_cons, List.length_nil, List.replicate, List.cons_append, List.nil_append, List.getElem?_cons_zero, List.getElem?_cons_succ, List.getElem?_nil, List.set_cons_zero, List.set_cons_succ, Nat.reduceAdd, Nat.reduceSub, Nat.reduceEqDiff, if_true, if_false, if_pos rfl, reduceIte, xCall, aCons, xBM, xVar, xC, aNil, tStr, hs2, hr]
  unfold bRows
  simp only [Rs.bind_ok, Rs.bind_exc, Rs.toS_ok, Rs.toS_exc, List.map_cons, List.map_nil, List.length_cons, List.length_nil, List.replicate, List.cons_append, List.nil_append, List.getElem?_cons_zero, List.getElem?_cons_succ, List.getElem?_nil, List.set_cons_zero, List.set_cons_succ, Nat.reduceAdd, Nat.reduceSub, Nat.reduceEqDiff, if_true, if_false, if_pos rfl, reduceIte, sSeq, sSet, h1, sIf, bOf, xOp, xVar, xC, hn, sNext, sDrop, xBM, ht, aCons, aNil, hg, Bool.false_eq_true]
theorem loop_rows : ∀ {rs before : List Row} {h : Hh} {n : Nat} (s0 s2 s3 : Option PV), Good before rs → Bef h n before → before.length + rs.length ≤ 100 →
    ∃ b2 b3, forL (.nm 2) bRows ((rs.map lineL).map fun w => .str (S w)) [s0, some (.ref n), s2, s3] h = .nx [s0, some (.ref n), b2, b3] (h.set n (.lst ((before ++ rs).map rowP)))
  | [], before, h, n, s0, s2, s3, g, B, hz => ⟨s2, s3, by
    rw [List.append_nil, set_same B.at_]
    rfl⟩
  | r :: rs, before, h, n, s0, s2, s3, g, B, hz => by
    cases g with
    | cons a f g =>
      have t := turn_rows B a f s0 s3
      have hlt := (List.getElem?_eq_some_iff.mp B.at_).1
      have B2 : Bef (h.set n (.lst ((before ++ [r]).map rowP))) n (before ++ [r]) := ⟨List.getElem?_set_self hlt, fun x hx => by
        rcases List.mem_append.mp hx with hx | hx
        · exact B.ok x hx
        · rw [List.mem_singleton.mp hx]; exact f.ok, fun x hx => by
        rcases List.mem_append.mp hx with hx | hx
        · exact B.ride x hx
        · rw [List.mem_singleton.mp hx]; exact f.ride, by simp only [List.length_append, List.length_cons, List.length_nil] at hz ⊢; omega⟩
      obtain ⟨b2, b3, ih⟩ := loop_rows s0 (some (.str (S (lineL r)))) (some (rowP r)) g B2 (by simp only [List.length_append, List.length_cons, List.length_nil] at hz ⊢; omega)
      refine ⟨b2, b3, ?_⟩
      rw [List.map_cons, List.map_cons, forL, asg_nm]
      simp only [Rs.bind_ok, Rs.bind_exc, Rs.toS_ok, Rs.toS_exc, List.map_cons, List.map_nil, List.length_cons, List.length_nil, List.replicate, List.cons_append, List.nil_append, List.getElem?_cons_zero, List.getElem?_cons_succ, List.getElem?_nil, List.set_cons_zero, List.set_cons_succ, Nat.reduceAdd, Nat.reduceSub, Nat.reduceEqDiff, if_true, if_false, if_pos rfl, reduceIte, t]
      rw [ih, List.set_set, List.append_assoc]
      rfl
theorem run_rows (h : Hh) {rs : List Row} {r : Row} (g : Good [] rs) (hne : rs ≠ []) (hz : rs.length ≤ 100) (ht : (textL rs).length ≤ 1000000) (hl : ∀ x ∈ rs.map lineL, 10 ∉ x) (hlast : rs.getLast? = some r) (hw : r.1 ≠ "slots" ∧ r.1 ≠ "peak") :
    r_read_rows [.str (S (textL rs))] h = .ok (.lst (rs.map rowP)) (h ++ [.gone]) := by
  have hs := gsplit_at (s := 10) (parts := rs.map lineL) (by decide) (by simpa using hne) hl ht (h ++ [.lst []])
  have B : Bef (h ++ [.lst []]) h.length [] := ⟨by simp, (fun r hr => by cases hr), (fun r hr => by cases hr), by decide⟩
  obtain ⟨b2, b3, hf⟩ := loop_rows (some (.str (S (textL rs)))) none none g B (by simpa using hz)
  have hset : (h ++ [Ob.lst []]).set h.length (.lst (([] ++ rs).map rowP)) = h ++ [.lst (rs.map rowP)] := by simp
  rw [hset] at hf
  have ha : asL (.ref h.length) (h ++ [.lst (rs.map rowP)]) = some (rs.map rowP) := by
    unfold asL
    simp
  have hat : atI (rs.map rowP) (-1) = some (rowP r) := atI_last (by rw [List.getLast?_map, hlast]; rfl)
  have hin : gIn false (.str r.1) (.tup [.str "slots", .str "peak"]) (h ++ [.lst (rs.map rowP)]) = .ok (.bl false) (h ++ [.lst (rs.map rowP)]) := by
    have : inP (.str r.1) [.str "slots", .str "peak"] = false := by
      show ((("slots" : Str) == r.1) || ((("peak" : Str) == r.1) || false)) = false
      rw [beq_false_of_ne fun z => hw.1 z.symm, beq_false_of_ne fun z => hw.2 z.symm]
      rfl
    show (if flatP (.str r.1) = true ∧ [PV.str "slots", .str "peak"].all flatP = true then Rs.ok (PV.bl (inP (.str r.1) [.str "slots", .str "peak"])) _ else .bad) = _
    rw [if_pos ⟨rfl, rfl⟩, this]
  have hfz : frzV (.ref h.length) (h ++ [.lst (rs.map rowP)]) = some (.lst (rs.map rowP), h ++ [.gone]) := by
    unfold frzV
    simp [frzO]
  have hiL : iLst (xBM tStr gSplit (xVar 0) (aCons (xC (.str "\n")) (aNil))) [some (.str (S (textL rs))), some (.ref h.length), none, none] (h ++ [.lst []]) = .ok ((rs.map lineL).map fun w => .str (S w)) (h ++ [.lst []]) := by
    have hs2 : gSplit (.str (S (textL rs))) [.str (S [10])] (h ++ [.lst []]) = .ok (.lst ((rs.map lineL).map fun w => .str (S w))) (h ++ [.lst []]) := hs
    rw [blank.2]
    simp only [Rs.bind_ok, Rs.bind_exc, Rs.toS_ok, Rs.toS_exc, List.map_cons, List.map_nil, List.length_cons, List.length_nil, List.replicate, List.cons_append, List.nil_append, List.getElem?_cons_zero, List.getElem?_cons_succ, List.getElem?_nil, List.set_cons_zero, List.set_cons_succ, Nat.reduceAdd, Nat.reduceSub, Nat.reduceEqDiff, if_true, if_false, if_pos rfl, reduceIte, iLst, xBM, xVar, aCons, xC, aNil, tStr, hs2]
  have hcond : bOf (xOp (gIn false) (xOp gIxT (xOp gIxL (xVar 1) (xNeg (xC (.int 1)))) (xC (.int 0))) (xTup (aCons (xC (.str "slots")) (aCons (xC (.str "peak")) (aNil))))) [some (.str (S (textL rs))), some (.ref h.length), b2, b3] (h ++ [.lst (rs.map rowP)]) = .ok false (h ++ [.lst (rs.map rowP)]) := by
    have hrp : rowP r = .tup (.str r.1 :: r.2) := rfl
    simp only [runF, startS, sSeq, sSet, sRet, sRetN, sIf, sDrop, sAsg, sNext, sNever, sAug, asg_nm, asg_2, asg_3, asg_4, xVar, xC, aNil, aCons, xOp, xCall, xMt, xTup, xLst, xIf, xAnd, xOr, xNot, bOf, bTru, bAnd, bOr, bNot, bYes, gI2, gAdd, gSub, gLt, gLe, gGt, gGe, gIxT, gLen, gMin2, gMax2, gIsN, Rs.bind_ok, Rs.bind_exc, Rs.toS_ok, Rs.toS_exc, List.map_cons, List.map_nil, List.length_cons, List.length_nil, List.replicate, List.cons_append, List.nil_append, List.getElem?_cons_zero, List.getElem?_cons_succ, List.getElem?_nil, List.set_cons_zero, List.set_cons_succ, Nat.reduceAdd, Nat.reduceSub, Nat.reduceEqDiff, if_true, if_false, if_pos rfl, reduceIte, decide_true, decide_false, Bool.not_true, Bool.not_false, sizeLine_eq, Nat.reduceLeDiff, eqd_int, xFld, Bool.true_eq_false, Bool.false_eq_true, ite_toS, ite_bind, gIxL, xNeg, ha, hat, hrp, atI0, hin]
  rw [rows_def]
  simp only [Rs.bind_ok, Rs.bind_exc, Rs.toS_ok, Rs.toS_exc, List.map_cons, List.map_nil, List.length_cons, List.length_nil, List.replicate, List.cons_append, List.nil_append, List.getElem?_cons_zero, List.getElem?_cons_succ, List.getElem?_nil, List.set_cons_zero, List.set_cons_succ, Nat.reduceAdd, Nat.reduceSub, Nat.reduceEqDiff, if_true, if_false, if_pos rfl, reduceIte, runF, startS, sSeq, sSet, xLstI, aNil, Nat.zero_le, sFor, hiL, hf, sIf, hcond, sNext, sRet, xFrzA, xVar, hfz, Bool.false_eq_true]
end TR

set_option Elab.async false
set_option linter.all false
set_option maxRecDepth 100000
set_option maxHeartbeats 4000000
namespace TR
open PySem PySem.Spec L2
open SX (S)

/-! ### systems as the document bounds them -/
structure SD.WF (d : SD) : Prop where
  sl : 1 ≤ d.slots ∧ d.slots ≤ 8
  pk : ∀ p, d.peak = some p → p ≠ [] ∧ (∀ k ∈ p, 0 ≤ k ∧ k < d.slots) ∧ p.Pairwise (· < ·)
  rne : d.rides ≠ []
  rlen : d.rides.length ≤ 3
  rok : ∀ q ∈ d.rides, 97 ≤ q.1 ∧ q.1 ≤ 122 ∧ Sm q.2.1 ∧ Sm q.2.2
  ras : (d.rides.map (·.1)).Pairwise (· < ·)
  tr : ∀ q, d.transfer = some q → (0 ≤ q.1 ∧ q.1 ≤ 4) ∧ Sm q.2
  cp : ∀ k, d.cap = some k → Sm k
  bn : ∀ k, d.bonus = some k → 2 ≤ k ∧ k ≤ 4
theorem asc_len {s : Int} : ∀ {l : List Int} {a : Int}, l.Pairwise (· < ·) → (∀ k ∈ l, a ≤ k ∧ k < s) → a ≤ s → (l.length : Int) ≤ s - a
  | [], a, _, _, h => by simp only [List.length_nil]; omega
  | k :: r, a, hp, hb, h => by
    rw [List.pairwise_cons] at hp
    have hk := hb k List.mem_cons_self
    have ih := asc_len (l := r) (a := k + 1) hp.2 (fun j hj => ⟨by have := hp.1 j hj; omega, (hb j (List.mem_cons_of_mem _ hj)).2⟩) (by omega)
    simp only [List.length_cons]
    omega
theorem SD.WF.pz {d : SD} (W : d.WF) {p : List Int} (e : d.peak = some p) : p.length ≤ 8 := by
  obtain ⟨_, hb, ha⟩ := W.pk p e
  have := asc_len ha hb (by have := W.sl; omega)
  have := W.sl
  omega
theorem nil_or_snoc {α : Type} (l : List α) : l = [] ∨ ∃ p x, l = p ++ [x] := by
  rcases List.eq_nil_or_concat l with e | ⟨p, x, e⟩
  · exact .inl e
  · exact .inr ⟨p, x, by rw [e, List.concat_eq_append]⟩
theorem asc_nodupN {l : List Nat} (h : l.Pairwise (· < ·)) : l.Nodup := h.imp fun h => Nat.ne_of_lt h
theorem strOk_ch {c : Nat} (h : c ≤ 122) : PyData.strOk (ch c) = true := by
  show (#[c] : Array Nat).all (· < 0x110000) = true
  simp
  omega
theorem SD.WF.fit {d : SD} (W : d.WF) : d.Fit := ⟨asc_nodupN W.ras, fun q hq => strOk_ch (W.rok q hq).2.1, by have := W.rlen; omega, fun p e => by have := W.pz e; omega⟩
theorem wsp (r : Row) : wordsP r = .str r.1 :: r.2.map fun v => .str (S (pvL v)) := by
  unfold wordsP wordsR
  rw [List.map_cons, List.map_map]
  rfl
theorem S_pvL_int (k : Int) : S (pvL (.int k)) = nS k := SX.S_tl _
theorem S_pvL_str (x : Str) : S (pvL (.str x)) = x := SX.S_tl _
theorem wsp_ints (w : Str) (ks : List Int) : wordsP (w, ks.map .int) = .str w :: ks.map fun k => .str (nS k) := by
  rw [wsp, List.map_map]
  refine congrArg (List.cons _) (List.map_congr_left fun k _ => ?_)
  show PV.str (S (pvL (.int k))) = _
  rw [S_pvL_int]
/-! words and lines -/
theorem nS_fine : ∀ a ∈ List.range 21, 32 ∉ (nS (a : Nat)).cps.toList ∧ 10 ∉ (nS (a : Nat)).cps.toList ∧ (nS (a : Nat)).cps.toList.length ≤ 2 := by decide +kernel
theorem nS_fine' {k : Int} (h : Sm k) : 32 ∉ (nS k).cps.toList ∧ 10 ∉ (nS k).cps.toList ∧ (nS k).cps.toList.length ≤ 2 := by
  have := nS_fine _ h.nat.1
  rwa [h.nat.2] at this
theorem word_fine : ∀ w ∈ (["slots", "peak", "ride", "transfer", "cap", "bonus"] : List Str), 32 ∉ w.cps.toList ∧ 10 ∉ w.cps.toList ∧ w.cps.toList.length ≤ 8 ∧ PyData.strOk w = true := by decide +kernel
theorem join_len (s : Nat) : ∀ l : List (List Nat), (∀ x ∈ l, x.length ≤ 8) → (TL.joinL [s] l).length ≤ 9 * l.length
  | [], _ => Nat.le_refl _
  | [x], h => by
    show x.length ≤ 9
    have := h x List.mem_cons_self
    omega
  | x :: y :: r, h => by
    have ih := join_len s (y :: r) fun z hz => h z (List.mem_cons_of_mem _ hz)
    have hx := h x List.mem_cons_self
    show (x ++ ([s] ++ TL.joinL [s] (y :: r))).length ≤ 9 * (x :: y :: r).length
    simp only [List.length_append, List.length_cons, List.length_nil] at ih ⊢
    omega
theorem join_no {s c : Nat} (hs : c ≠ s) : ∀ l : List (List Nat), (∀ x ∈ l, c ∉ x) → c ∉ TL.joinL [s] l
  | [], _ => by simp [TL.joinL]
  | [x], h => h x List.mem_cons_self
  | x :: y :: r, h => by
    have ih := join_no hs (y :: r) fun z hz => h z (List.mem_cons_of_mem _ hz)
    show c ∉ x ++ ([s] ++ TL.joinL [s] (y :: r))
    simp only [List.mem_append, List.mem_singleton, not_or]
    exact ⟨h x List.mem_cons_self, hs, ih⟩
/-- a value in a row -/
def ValOk : PV → Prop
  | .int k => Sm k
  | .str x => ∃ c, x = ch c ∧ 97 ≤ c ∧ c ≤ 122
  | _ => False
theorem val_fine {v : PV} (h : ValOk v) : 32 ∉ pvL v ∧ 10 ∉ pvL v ∧ (pvL v).length ≤ 8 := by
  cases v with
  | int k =>
    obtain ⟨a, b, c⟩ := nS_fine' h
    exact ⟨a, b, Nat.le_trans c (by decide)⟩
  | str x =>
    obtain ⟨c, rfl, h1, h2⟩ := h
    show 32 ∉ [c] ∧ 10 ∉ [c] ∧ [c].length ≤ 8
    refine ⟨?_, ?_, by show 1 ≤ 8; decide⟩ <;> rw [List.mem_singleton] <;> omega
  | _ => exact h.elim
theorem fine_of {w : Str} {vs : List PV} (hw : w ∈ (["slots", "peak", "ride", "transfer", "cap", "bonus"] : List Str)) (hv : ∀ v ∈ vs, ValOk v) (hz : vs.length ≤ 10) (hne : w = ("ride" : Str) → vs ≠ []) : Fine (w, vs) := by
  obtain ⟨a, b, c, d⟩ := word_fine w hw
  have hx : ∀ x ∈ wordsR (w, vs), (32 ∉ x ∧ 10 ∉ x) ∧ x.length ≤ 8 := by
    intro x hx
    rcases List.mem_cons.mp hx with rfl | hx
    · exact ⟨⟨a, b⟩, c⟩
    · obtain ⟨v, hv2, rfl⟩ := List.mem_map.mp hx
      obtain ⟨p, q, r⟩ := val_fine (hv v hv2)
      exact ⟨⟨p, q⟩, r⟩
  refine ⟨fun x h => (hx x h).1, ?_, d, fun e => ?_⟩
  · have := join_len 32 (wordsR (w, vs)) fun x h => (hx x h).2
    have hl : (wordsR (w, vs)).length = vs.length + 1 := by simp [wordsR]
    unfold lineL
    omega
  · cases vs with
    | nil => exact absurd rfl (hne e)
    | cons v r => rfl

/-! ### each row is taken in its place -/
theorem fol_empty : tab_FOLLOWERS.lookup (lastW []) = some (.tup ((["slots"] : List Str).map .str)) := rfl
theorem acc_slots {k : Int} (h1 : 1 ≤ k) (h2 : k ≤ 8) : Acc [] ("slots", [.int k]) := by
  intro h n B
  have hn := run_numbers h (w := "slots") (ws := wordsP ("slots", [.int k])) (pw := [.str "slots"]) (ks := [k]) (bs := [(1, 8)]) (n := 1) rfl (.cons (by decide) (by decide) h1 h2 .nil) (wsp_ints "slots" [k]) rfl (by rw [wsp]; exact atI0 _ _) (by decide) (by show 1 ≤ 10; decide)
  rw [run_row B (w := "slots") (by rw [wsp]; exact atI0 _ _) (by decide +kernel) fol_empty (by simp), if_neg (by decide +kernel), if_neg (by decide +kernel)]
  exact hn
theorem acc_peak {sl : Int} (h1 : 1 ≤ sl) (h2 : sl ≤ 8) {p : List Int} (hne : p ≠ []) (hb : ∀ k ∈ p, 0 ≤ k ∧ k < sl) (ha : p.Pairwise (· < ·)) (hz : p.length ≤ 8) : Acc [("slots", [.int sl])] ("peak", p.map .int) := by
  intro h n B
  have hp := run_peak h h1 (by omega) hne hb ha (by omega) (.str "peak")
  have hf : tab_FOLLOWERS.lookup (lastW [("slots", [PV.int sl])]) = some (.tup ((["peak", "ride"] : List Str).map .str)) := rfl
  rw [run_row B (w := "peak") (by rw [wsp]; exact atI0 _ _) (by decide +kernel) hf (by simp), if_pos rfl, wsp_ints]
  exact hp
theorem acc_ride {before : List Row} {w : Str} {fl : List Str} (hw : lastW before = w) (hf : tab_FOLLOWERS.lookup w = some (.tup (fl.map .str))) (hm : ("ride" : Str) ∈ fl) {q : Nat × Int × Int} (h1 : 97 ≤ q.1) (h2 : q.1 ≤ 122) (hp : Sm q.2.1) (hq : Sm q.2.2) (hl : (kindsP before).length < 3) (hk : KindsOk (kindsP before) q.1) : Acc before (rRide q) := by
  intro h n B
  have hr := run_rride B h1 h2 hp hq hl hk
  have e : wordsP (rRide q) = [.str "ride", .str (ch q.1), .str (nS q.2.1), .str (nS q.2.2)] := by
    rw [wsp]
    show [PV.str "ride", .str (S (pvL (.str (ch q.1)))), .str (S (pvL (.int q.2.1))), .str (S (pvL (.int q.2.2)))] = _
    rw [S_pvL_str, S_pvL_int, S_pvL_int]
  rw [run_row B (w := "ride") (by rw [wsp]; exact atI0 _ _) rideOk (by rw [hw]; exact hf) hm, if_neg (by decide +kernel), if_pos rfl, e]
  exact hr
theorem acc_nums {before : List Row} {w0 w : Str} {fl : List Str} (hw : lastW before = w0) (hf : tab_FOLLOWERS.lookup w0 = some (.tup (fl.map .str))) (hm : w ∈ fl) {ks : List Int} {bs : List (Int × Int)} (ht : tab_BOUNDS.lookup w = some (.tup (bs.map bP))) (hb : InB ks bs) (hz : ks.length ≤ 10) (ho : PyData.strOk w = true) (h1 : w ≠ "peak") (h2 : w ≠ "ride") : Acc before (w, ks.map .int) := by
  intro h n B
  have hn := run_numbers h (w := w) (ws := wordsP (w, ks.map .int)) (pw := [.str w]) (n := 1) ht hb (wsp_ints w ks) rfl (by rw [wsp]; exact atI0 _ _) (by decide) hz
  rw [run_row B (w := w) (by rw [wsp]; exact atI0 _ _) ho (by rw [hw]; exact hf) hm, if_neg h1, if_neg h2]
  exact hn
theorem kinds_app (a b : List Row) : kindsP (a ++ b) = kindsP a ++ kindsP b := List.filterMap_append
theorem kinds_rides : ∀ l : List (Nat × Int × Int), kindsP (l.map rRide) = l.map fun q => .str (ch q.1)
  | [] => rfl
  | q :: r => by
    show kindsP (rRide q :: r.map rRide) = _
    unfold kindsP
    rw [List.filterMap_cons, if_pos (show (rRide q).1 = ("ride" : Str) from rfl)]
    show PV.str (ch q.1) :: kindsP (r.map rRide) = _
    rw [kinds_rides r]
    rfl
theorem kinds_head (d : SD) : kindsP d.rHead = [] := by
  unfold SD.rHead rPeak
  cases d.peak <;> rfl
theorem lastW_app (a : List Row) (r : Row) : lastW (a ++ [r]) = r.1 := by
  unfold lastW
  rw [List.getLast?_concat]
theorem good_rides {d : SD} : ∀ (l p : List (Nat × Int × Int)), (p ++ l).length ≤ 3 → (∀ q ∈ l, 97 ≤ q.1 ∧ q.1 ≤ 122 ∧ Sm q.2.1 ∧ Sm q.2.2) → ((p ++ l).map (·.1)).Pairwise (· < ·) → Good (d.rHead ++ p.map rRide) (l.map rRide)
  | [], p, _, _, _ => .nil
  | q :: l, p, hz, ho, ha => by
    obtain ⟨h1, h2, h3, h4⟩ := ho q List.mem_cons_self
    have hk : kindsP (d.rHead ++ p.map rRide) = p.map fun q => .str (ch q.1) := by rw [kinds_app, kinds_head, kinds_rides, List.nil_append]
    have hacc : Acc (d.rHead ++ p.map rRide) (rRide q) := by
      have hko : KindsOk (kindsP (d.rHead ++ p.map rRide)) q.1 := by
        rw [hk]
        rcases nil_or_snoc p with rfl | ⟨p', x, rfl⟩
        · exact .inl rfl
        · refine .inr ⟨x.1, ?_, ?_⟩
          · rw [List.getLast?_map, List.getLast?_concat]
            rfl
          · rw [List.map_append] at ha
            exact (List.pairwise_append.mp ha).2.2 x.1 (List.mem_map_of_mem (List.mem_append_right _ (List.mem_singleton.mpr rfl))) q.1 (List.mem_map_of_mem List.mem_cons_self)
      have hkl : (kindsP (d.rHead ++ p.map rRide)).length < 3 := by
        rw [hk, List.length_map]
        simp only [List.length_append, List.length_cons] at hz
        omega
      rcases nil_or_snoc p with rfl | ⟨p', x, rfl⟩
      · rw [List.map_nil, List.append_nil] at hkl hko ⊢
        cases e : d.peak with
        | none => exact acc_ride (w := "slots") (fl := ["peak", "ride"]) (by unfold SD.rHead rPeak; rw [e]; rfl) rfl (by simp) h1 h2 h3 h4 hkl hko
        | some pp => exact acc_ride (w := "peak") (fl := ["ride"]) (by unfold SD.rHead rPeak; rw [e]; rfl) rfl (by simp) h1 h2 h3 h4 hkl hko
      · refine acc_ride (w := "ride") (fl := ["ride", "transfer", "cap", "bonus"]) ?_ rfl (by simp) h1 h2 h3 h4 hkl hko
        rw [List.map_append, ← List.append_assoc]
        exact lastW_app _ _
    refine .cons hacc (fine_of (by simp) (fun v hv => ?_) (by show 3 ≤ 10; decide) (fun _ z => by cases z)) ?_
    · simp only [List.mem_cons, List.not_mem_nil, or_false] at hv
      rcases hv with rfl | rfl | rfl
      · exact ⟨q.1, rfl, h1, h2⟩
      · exact h3
      · exact h4
    · have := good_rides (d := d) l (p ++ [q]) (by rw [List.append_assoc]; exact hz) (fun x hx => ho x (List.mem_cons_of_mem _ hx)) (by rw [List.append_assoc]; exact ha)
      rw [List.map_append, ← List.append_assoc] at this
      exact this
theorem words_no : ("transfer" : Str) ≠ "peak" ∧ ("transfer" : Str) ≠ "ride" ∧ ("cap" : Str) ≠ "peak" ∧ ("cap" : Str) ≠ "ride" ∧ ("bonus" : Str) ≠ "peak" ∧ ("bonus" : Str) ≠ "ride" := by decide +kernel
theorem good_tail {d : SD} (W : d.WF) {b : List Row} (hb : lastW b = "ride") : Good b d.tail := by
  have o1 := (word_fine "transfer" (by simp)).2.2.2
  have o2 := (word_fine "cap" (by simp)).2.2.2
  have o3 := (word_fine "bonus" (by simp)).2.2.2
  have f3 : ∀ k, d.bonus = some k → Fine ("bonus", [.int k]) := fun k e => fine_of (by simp) (fun v hv => by rw [List.mem_singleton.mp hv]; have := W.bn k e; exact ⟨by omega, by omega⟩) (by show 1 ≤ 10; decide) fun z => absurd z (by decide +kernel)
  have f2 : ∀ k, d.cap = some k → Fine ("cap", [.int k]) := fun k e => fine_of (by simp) (fun v hv => by rw [List.mem_singleton.mp hv]; exact W.cp k e) (by show 1 ≤ 10; decide) fun z => absurd z (by decide +kernel)
  have f1 : ∀ q, d.transfer = some q → Fine ("transfer", [.int q.1, .int q.2]) := fun q e => fine_of (by simp) (fun v hv => by
    simp only [List.mem_cons, List.not_mem_nil, or_false] at hv
    obtain ⟨⟨a1, a2⟩, a3⟩ := W.tr q e
    rcases hv with rfl | rfl
    · exact ⟨a1, by omega⟩
    · exact a3) (by show 2 ≤ 10; decide) fun z => absurd z (by decide +kernel)
  have g3 : ∀ b' : List Row, (lastW b' = "ride" ∨ lastW b' = "transfer" ∨ lastW b' = "cap") → Good b' (rOne "bonus" d.bonus) := by
    intro b' hb'
    unfold rOne
    cases e : d.bonus with
    | none => exact .nil
    | some k =>
      have hk := W.bn k e
      refine .cons ?_ (f3 k e) .nil
      rcases hb' with hb' | hb' | hb'
      · exact acc_nums (fl := ["ride", "transfer", "cap", "bonus"]) (ks := [k]) (bs := [(2, 4)]) hb' rfl (by simp) rfl (.cons (by decide) (by decide) hk.1 hk.2 .nil) (by show 1 ≤ 10; decide) o3 words_no.2.2.2.2.1 words_no.2.2.2.2.2
      · exact acc_nums (fl := ["cap", "bonus"]) (ks := [k]) (bs := [(2, 4)]) hb' rfl (by simp) rfl (.cons (by decide) (by decide) hk.1 hk.2 .nil) (by show 1 ≤ 10; decide) o3 words_no.2.2.2.2.1 words_no.2.2.2.2.2
      · exact acc_nums (fl := ["bonus"]) (ks := [k]) (bs := [(2, 4)]) hb' rfl (by simp) rfl (.cons (by decide) (by decide) hk.1 hk.2 .nil) (by show 1 ≤ 10; decide) o3 words_no.2.2.2.2.1 words_no.2.2.2.2.2
  have g2 : ∀ b' : List Row, (lastW b' = "ride" ∨ lastW b' = "transfer") → Good b' (rOne "cap" d.cap ++ rOne "bonus" d.bonus) := by
    intro b' hb'
    cases e : d.cap with
    | none => exact g3 b' (hb'.imp_right .inl)
    | some k =>
      have hk := W.cp k e
      refine .cons ?_ (f2 k e) (g3 _ (.inr (.inr (lastW_app _ _))))
      rcases hb' with hb' | hb'
      · exact acc_nums (fl := ["ride", "transfer", "cap", "bonus"]) (ks := [k]) (bs := [(0, 20)]) hb' rfl (by simp) rfl (.cons (by decide) (by decide) hk.1 hk.2 .nil) (by show 1 ≤ 10; decide) o2 words_no.2.2.1 words_no.2.2.2.1
      · exact acc_nums (fl := ["cap", "bonus"]) (ks := [k]) (bs := [(0, 20)]) hb' rfl (by simp) rfl (.cons (by decide) (by decide) hk.1 hk.2 .nil) (by show 1 ≤ 10; decide) o2 words_no.2.2.1 words_no.2.2.2.1
  unfold SD.tail
  cases e : d.transfer with
  | none => exact g2 b (.inl hb)
  | some q =>
    obtain ⟨⟨a1, a2⟩, a3⟩ := W.tr q e
    refine .cons ?_ (f1 q e) (g2 _ (.inr (lastW_app _ _)))
    exact acc_nums (fl := ["ride", "transfer", "cap", "bonus"]) (ks := [q.1, q.2]) (bs := [(0, 4), (0, 20)]) hb rfl (by simp) rfl (.cons (by decide) (by decide) a1 a2 (.cons (by decide) (by decide) a3.1 a3.2 .nil)) (by show 2 ≤ 10; decide) o1 words_no.1 words_no.2.1
theorem good_all {d : SD} (W : d.WF) : Good [] d.rowsW := by
  have hs := W.sl
  have g1 : Good [] d.rHead := by
    refine .cons (acc_slots hs.1 hs.2) (fine_of (by simp) (fun v hv => by rw [List.mem_singleton.mp hv]; exact ⟨by omega, by omega⟩) (by show 1 ≤ 10; decide) fun z => absurd z (by decide +kernel)) ?_
    unfold rPeak
    cases e : d.peak with
    | none => exact .nil
    | some p =>
      obtain ⟨a, b, c⟩ := W.pk p e
      have hz := W.pz e
      refine .cons (acc_peak hs.1 hs.2 a b c hz) (fine_of (by simp) (fun v hv => ?_) (by rw [List.length_map]; omega) fun z => absurd z (by decide +kernel)) .nil
      obtain ⟨k, hk, rfl⟩ := List.mem_map.mp hv
      have := b k hk
      exact ⟨by omega, by omega⟩
  have g2 : Good ([] ++ d.rHead) (d.rides.map rRide) := by
    have := good_rides (d := d) d.rides [] (by simpa using W.rlen) W.rok (by simpa using W.ras)
    rw [List.map_nil, List.append_nil] at this
    exact this
  have hl : lastW ([] ++ d.rHead ++ d.rides.map rRide) = "ride" := by
    rcases nil_or_snoc d.rides with e | ⟨p', x, e⟩
    · exact absurd e W.rne
    · rw [e, List.map_append, ← List.append_assoc]
      exact lastW_app _ _
  exact g1.app (g2.app (good_tail W hl))
theorem last_row {d : SD} (W : d.WF) : ∃ r, d.rowsW.getLast? = some r ∧ r.1 ≠ "slots" ∧ r.1 ≠ "peak" := by
  have hw : ("ride" : Str) ≠ "slots" ∧ ("ride" : Str) ≠ "peak" ∧ ("transfer" : Str) ≠ "slots" ∧ ("transfer" : Str) ≠ "peak" ∧ ("cap" : Str) ≠ "slots" ∧ ("cap" : Str) ≠ "peak" ∧ ("bonus" : Str) ≠ "slots" ∧ ("bonus" : Str) ≠ "peak" := by decide +kernel
  have e : d.rowsW = d.rHead ++ d.rides.map rRide ++ d.tail := by
    rw [List.append_assoc]
    rfl
  rw [e]
  cases hb : d.bonus with
  | some k =>
    refine ⟨("bonus", [.int k]), ?_, hw.2.2.2.2.2.2⟩
    unfold SD.tail
    rw [hb, show rOne "bonus" (some k) = [(("bonus" : Str), [PV.int k])] from rfl, ← List.append_assoc, ← List.append_assoc, List.getLast?_concat]
  | none =>
    cases hc : d.cap with
    | some k =>
      refine ⟨("cap", [.int k]), ?_, hw.2.2.2.2.1, hw.2.2.2.2.2.1⟩
      unfold SD.tail
      rw [hb, hc, show rOne "cap" (some k) ++ rOne "bonus" none = [(("cap" : Str), [PV.int k])] from rfl, ← List.append_assoc, List.getLast?_concat]
    | none =>
      cases ht : d.transfer with
      | some q =>
        refine ⟨("transfer", [.int q.1, .int q.2]), ?_, hw.2.2.1, hw.2.2.2.1⟩
        unfold SD.tail
        rw [hb, hc, ht, show rTransfer (some q) ++ (rOne "cap" none ++ rOne "bonus" none) = [(("transfer" : Str), [PV.int q.1, PV.int q.2])] from rfl, List.getLast?_concat]
      | none =>
        rcases nil_or_snoc d.rides with z | ⟨p, x, z⟩
        · exact absurd z W.rne
        · refine ⟨rRide x, ?_, hw.1, hw.2.1⟩
          have : d.tail = [] := by
            unfold SD.tail
            rw [hb, hc, ht]
            rfl
          rw [this, List.append_nil, z, List.map_append, ← List.append_assoc]
          exact List.getLast?_concat
theorem good_fine : ∀ {b rs : List Row}, Good b rs → ∀ r ∈ rs, Fine r := by
  intro b rs g
  induction g with
  | nil => intro r h; cases h
  | cons a f g ih =>
    intro r h
    rcases List.mem_cons.mp h with rfl | h
    · exact f
    · exact ih r h
theorem text_len : ∀ l : List (List Nat), (∀ x ∈ l, x.length ≤ 500) → (TL.joinL [10] l).length ≤ 501 * l.length
  | [], _ => Nat.le_refl _
  | [x], h => by
    show x.length ≤ 501
    have := h x List.mem_cons_self
    omega
  | x :: y :: r, h => by
    have ih := text_len (y :: r) fun z hz => h z (List.mem_cons_of_mem _ hz)
    have hx := h x List.mem_cons_self
    show (x ++ ([10] ++ TL.joinL [10] (y :: r))).length ≤ 501 * (x :: y :: r).length
    simp only [List.length_append, List.length_cons, List.length_nil] at ih ⊢
    omega
theorem run_text {d : SD} (W : d.WF) (h : Hh) : r_read_rows [.str (S (textL d.rowsW))] h = .ok (.lst (d.rowsW.map rowP)) (h ++ [.gone]) := by
  obtain ⟨r, hr, hw⟩ := last_row W
  have g := good_all W
  have f := good_fine g
  have hz := rows_len W.fit
  have hl : d.rowsW.length ≤ 100 := by
    have := W.rlen
    unfold SD.rowsW SD.tail rPeak rTransfer rOne
    simp only [List.length_cons, List.length_append, List.length_map]
    cases d.peak <;> cases d.transfer <;> cases d.cap <;> cases d.bonus <;> simp only [List.length_cons, List.length_nil] <;> omega
  refine run_rows h g (List.cons_ne_nil _ _) hl ?_ ?_ hr hw
  · have := text_len (d.rowsW.map lineL) fun x hx => by
      obtain ⟨r, hr, rfl⟩ := List.mem_map.mp hx
      exact (f r hr).z
    rw [List.length_map] at this
    unfold textL
    omega
  · intro x hx
    obtain ⟨r, hr, rfl⟩ := List.mem_map.mp hx
    exact join_no (by decide) _ fun y hy => ((f r hr).w y hy).2
/-- a system is read from its text -/
theorem run_parse {d : SD} (W : d.WF) (h : Hh) {g : List Cd} {q : Nat} (hr : reach d.sys 100 q 0 [newC] = some g) (hq : q ≤ 1000000) (hg : g.length ≤ 100) :
    r_System_parse [.cls 3, .str (S (textL d.rowsW))] h = .ok (.ref (h.length + 1)) (h ++ [.gone, .ins 3 d.sys.fs, .gone, .dcn (kD g)]) := by
  have h1 := run_text W h
  have h2 := run_init W.fit (h ++ [.gone]) hr hq
  rw [if_neg (by omega)] at h2
  have hl : (h ++ [Ob.gone]).length = h.length + 1 := by simp
  have he : (h ++ [Ob.gone]) ++ [.ins 3 d.sys.fs, .gone, .dcn (kD g)] = h ++ [.gone, .ins 3 d.sys.fs, .gone, .dcn (kD g)] := by simp
  rw [he, hl] at h2
  unfold r_System_parse
  simp only [Rs.bind_ok, Rs.bind_exc, Rs.toS_ok, Rs.toS_exc, List.map_cons, List.map_nil, List.length_cons, List.length_nil, List.replicate, List.cons_append, List.nil_append, List.getElem?_cons_zero, List.getElem?_cons_succ, List.getElem?_nil, List.set_cons_zero, List.set_cons_succ, Nat.reduceAdd, Nat.reduceSub, Nat.reduceEqDiff, if_true, if_false, if_pos rfl, reduceIte, runF, startS, sRet, xMakeV, xMake, aCons, aNil, xCall, xVar, h1, hl, h2]
end TR

set_option Elab.async false
set_option linter.all false
set_option maxRecDepth 100000
set_option maxHeartbeats 4000000
namespace TR
open PySem PySem.Spec L2
open SX (S)

/-! ### the law's own draws -/
theorem mod_int {a m : Int} (hm : 0 < m) (h : Hh) : gMod (.int a) (.int m) h = .ok (.int (a % m)) h := by
  show (if decide (0 < m) = true then Rs.ok (PV.int (a % m)) h else .bad) = _
  rw [if_pos (decide_eq_true hm)]
theorem div_int {a m : Int} (hm : 0 < m) (h2 : m < 1073741824) (h : Hh) : gDiv (.int a) (.int m) h = .ok (.int (a / m)) h := by
  show (if (decide (0 < m) && decide (m < 1073741824)) = true then Rs.ok (PV.int (a / m)) h else .bad) = _
  rw [decide_eq_true hm, decide_eq_true h2]
  rfl
theorem mul_int {a m : Int} (h1 : -(2 ^ 64) < m) (h2 : m < 2 ^ 64) (h : Hh) : gMul (.int a) (.int m) h = .ok (.int (a * m)) h := by
  show (if bMul a m = true then Rs.ok (PV.int (a * m)) h else .bad) = _
  unfold bMul
  rw [decide_eq_true h1, decide_eq_true h2, Bool.and_self, Bool.or_true]
  rfl
theorem mulL_int {a m : Int} (h1 : -(2 ^ 64) < a) (h2 : a < 2 ^ 64) (h : Hh) : gMul (.int a) (.int m) h = .ok (.int (a * m)) h := by
  show (if bMul a m = true then Rs.ok (PV.int (a * m)) h else .bad) = _
  unfold bMul
  rw [decide_eq_true h1, decide_eq_true h2, Bool.and_self, Bool.true_or]
  rfl
theorem run_feed {ns : List Int} {k : Int} (h0 : 0 ≤ k) (h1 : k < 1000) (h : Hh) : ∃ a b, r_law_feed [.scr (ns.map .int), .int k] h = .ok (.ref h.length) (h ++ [.lst [.int a, .int b]]) := by
  have hp : gPow (.int 10) (.int 18) h = .ok (.int (10 ^ 18)) h := rfl
  have hcell : ∃ c, xIf (bOf (xOp gLt (xVar 1) (xCall gLen (aCons (xVar 0) (aNil))))) (xOp gIxL (xVar 0) (xVar 1)) (xOp gAdd (xOp gMul (xC (.int 83)) (xVar 1)) (xC (.int 29))) [some (.scr (ns.map .int)), some (.int k), none, none, none] h = .ok (.int c) h := by
    by_cases hk : k < ((ns.map PV.int).length : Nat)
    · have hk2 : k.toNat < ns.length := by rw [List.length_map] at hk; omega
      refine ⟨ns[k.toNat], ?_⟩
      have ha : atI (ns.map PV.int) k = some (.int ns[k.toNat]) := by
        have := atI_nat (l := ns.map PV.int) (k := k.toNat) (v := .int ns[k.toNat]) (by rw [List.getElem?_map, List.getElem?_eq_getElem hk2]; rfl)
        rwa [show ((k.toNat : Nat) : Int) = k by omega] at this
      simp only [runF, startS, sSeq, sSet, sRet, sRetN, sIf, sDrop, sAsg, sNext, sNever, sAug, asg_nm, asg_2, asg_3, asg_4, xVar, xC, aNil, aCons, xOp, xCall, xMt, xTup, xLst, xIf, xAnd, xOr, xNot, bOf, bTru, bAnd, bOr, bNot, bYes, gI2, gAdd, gSub, gLt, gLe, gGt, gGe, gIxT, gLen, gMin2, gMax2, gIsN, Rs.bind_ok, Rs.bind_exc, Rs.toS_ok, Rs.toS_exc, List.map_cons, List.map_nil, List.length_cons, List.length_nil, List.replicate, List.cons_append, List.nil_append, List.getElem?_cons_zero, List.getElem?_cons_succ, List.getElem?_nil, List.set_cons_zero, List.set_cons_succ, Nat.reduceAdd, Nat.reduceSub, Nat.reduceEqDiff, if_true, if_false, if_pos rfl, reduceIte, decide_true, decide_false, Bool.not_true, Bool.not_false, sizeLine_eq, Nat.reduceLeDiff, eqd_int, xFld, Bool.true_eq_false, Bool.false_eq_true, ite_toS, ite_bind, asL, hk, gIxL, ha]
    · have hm := mulL_int (a := 83) (m := k) (by decide) (by decide) h
      refine ⟨83 * k + 29, ?_⟩
      simp only [runF, startS, sSeq, sSet, sRet, sRetN, sIf, sDrop, sAsg, sNext, sNever, sAug, asg_nm, asg_2, asg_3, asg_4, xVar, xC, aNil, aCons, xOp, xCall, xMt, xTup, xLst, xIf, xAnd, xOr, xNot, bOf, bTru, bAnd, bOr, bNot, bYes, gI2, gAdd, gSub, gLt, gLe, gGt, gGe, gIxT, gLen, gMin2, gMax2, gIsN, Rs.bind_ok, Rs.bind_exc, Rs.toS_ok, Rs.toS_exc, List.map_cons, List.map_nil, List.length_cons, List.length_nil, List.replicate, List.cons_append, List.nil_append, List.getElem?_cons_zero, List.getElem?_cons_succ, List.getElem?_nil, List.set_cons_zero, List.set_cons_succ, Nat.reduceAdd, Nat.reduceSub, Nat.reduceEqDiff, if_true, if_false, if_pos rfl, reduceIte, decide_true, decide_false, Bool.not_true, Bool.not_false, sizeLine_eq, Nat.reduceLeDiff, eqd_int, xFld, Bool.true_eq_false, Bool.false_eq_true, ite_toS, ite_bind, asL, hk, hm]
  obtain ⟨c, hc⟩ := hcell
  have hm1 := mul_int (a := c) (m := 6364136223846793005) (by decide) (by decide) h
  have hm2 := mulL_int (a := 7919) (m := k) (by decide) (by decide) h
  have hmod := mod_int (a := c * 6364136223846793005 + 7919 * k + 1442695040888963407) (m := 2305843009213693951) (by decide) h
  unfold r_law_feed
  refine ⟨if (if c < 0 then -c else c) - 10 ^ 18 > 0 then (if c < 0 then -c else c) - 10 ^ 18 else 0, (c * 6364136223846793005 + 7919 * k + 1442695040888963407) % 2305843009213693951, ?_⟩
  simp only [Rs.bind_ok, Rs.bind_exc, Rs.toS_ok, Rs.toS_exc, List.map_cons, List.map_nil, List.length_cons, List.length_nil, List.replicate, List.cons_append, List.nil_append, List.getElem?_cons_zero, List.getElem?_cons_succ, List.getElem?_nil, List.set_cons_zero, List.set_cons_succ, Nat.reduceAdd, Nat.reduceSub, Nat.reduceEqDiff, if_true, if_false, if_pos rfl, reduceIte, runF, startS, sSeq, sSet, hc]
  simp only [runF, startS, sSeq, sSet, sRet, sRetN, sIf, sDrop, sAsg, sNext, sNever, sAug, asg_nm, asg_2, asg_3, asg_4, xVar, xC, aNil, aCons, xOp, xCall, xMt, xTup, xLst, xIf, xAnd, xOr, xNot, bOf, bTru, bAnd, bOr, bNot, bYes, gI2, gAdd, gSub, gLt, gLe, gGt, gGe, gIxT, gLen, gMin2, gMax2, gIsN, Rs.bind_ok, Rs.bind_exc, Rs.toS_ok, Rs.toS_exc, List.map_cons, List.map_nil, List.length_cons, List.length_nil, List.replicate, List.cons_append, List.nil_append, List.getElem?_cons_zero, List.getElem?_cons_succ, List.getElem?_nil, List.set_cons_zero, List.set_cons_succ, Nat.reduceAdd, Nat.reduceSub, Nat.reduceEqDiff, if_true, if_false, if_pos rfl, reduceIte, decide_true, decide_false, Bool.not_true, Bool.not_false, sizeLine_eq, Nat.reduceLeDiff, eqd_int, xFld, Bool.true_eq_false, Bool.false_eq_true, ite_toS, ite_bind, gAbs, hp, hm1, hm2, hmod, xLstI]
theorem run_take {f : Nat} {a b m : Int} {h : Hh} (hf : h[f]? = some (.lst [.int a, .int b])) (hm : 0 < m) (hm2 : m < 1073741824) : ∃ n a' b', (0 ≤ n ∧ n < m) ∧ r_law_take [.ref f, .int m] h = .ok (.int n) (h.set f (.lst [.int a', .int b'])) := by
  have hx0 : gIxL (.ref f) (.int 0) h = .ok (.int a) h := by
    unfold gIxL asL
    dsimp only
    rw [hf]
    rfl
  have hx1 : gIxL (.ref f) (.int 1) h = .ok (.int b) h := by
    unfold gIxL asL
    dsimp only
    rw [hf]
    rfl
  have hlt := (List.getElem?_eq_some_iff.mp hf).1
  by_cases ha : 0 < a
  · refine ⟨a % m, a / m, b, ⟨Int.emod_nonneg _ (by omega), Int.emod_lt_of_pos _ hm⟩, ?_⟩
    have h1 := mod_int (a := a) hm h
    have h2 := div_int (a := a) hm hm2 h
    have hs : sSetL (xVar 0) (xC (.int 0)) (xOp gDiv (xOp gIxL (xVar 0) (xC (.int 0))) (xVar 1)) [some (.ref f), some (.int m), some (.int (a % m))] h = .nx [some (.ref f), some (.int m), some (.int (a % m))] (h.set f (.lst [.int (a / m), .int b])) := by
      unfold sSetL
      simp only [runF, startS, sSeq, sSet, sRet, sRetN, sIf, sDrop, sAsg, sNext, sNever, sAug, asg_nm, asg_2, asg_3, asg_4, xVar, xC, aNil, aCons, xOp, xCall, xMt, xTup, xLst, xIf, xAnd, xOr, xNot, bOf, bTru, bAnd, bOr, bNot, bYes, gI2, gAdd, gSub, gLt, gLe, gGt, gGe, gIxT, gLen, gMin2, gMax2, gIsN, Rs.bind_ok, Rs.bind_exc, Rs.toS_ok, Rs.toS_exc, List.map_cons, List.map_nil, List.length_cons, List.length_nil, List.replicate, List.cons_append, List.nil_append, List.getElem?_cons_zero, List.getElem?_cons_succ, List.getElem?_nil, List.set_cons_zero, List.set_cons_succ, Nat.reduceAdd, Nat.reduceSub, Nat.reduceEqDiff, if_true, if_false, if_pos rfl, reduceIte, decide_true, decide_false, Bool.not_true, Bool.not_false, sizeLine_eq, Nat.reduceLeDiff, eqd_int, xFld, Bool.true_eq_false, Bool.false_eq_true, ite_toS, ite_bind, hx0, h2, hf]
      rfl
    have hc : bOf (xOp gGt (xOp gIxL (xVar 0) (xC (.int 0))) (xC (.int 0))) [some (.ref f), some (.int m), none] h = .ok true h := by
      simp only [runF, startS, sSeq, sSet, sRet, sRetN, sIf, sDrop, sAsg, sNext, sNever, sAug, asg_nm, asg_2, asg_3, asg_4, xVar, xC, aNil, aCons, xOp, xCall, xMt, xTup, xLst, xIf, xAnd, xOr, xNot, bOf, bTru, bAnd, bOr, bNot, bYes, gI2, gAdd, gSub, gLt, gLe, gGt, gGe, gIxT, gLen, gMin2, gMax2, gIsN, Rs.bind_ok, Rs.bind_exc, Rs.toS_ok, Rs.toS_exc, List.map_cons, List.map_nil, List.length_cons, List.length_nil, List.replicate, List.cons_append, List.nil_append, List.getElem?_cons_zero, List.getElem?_cons_succ, List.getElem?_nil, List.set_cons_zero, List.set_cons_succ, Nat.reduceAdd, Nat.reduceSub, Nat.reduceEqDiff, if_true, if_false, if_pos rfl, reduceIte, decide_true, decide_false, Bool.not_true, Bool.not_false, sizeLine_eq, Nat.reduceLeDiff, eqd_int, xFld, Bool.true_eq_false, Bool.false_eq_true, ite_toS, ite_bind, hx0, ha]
    have hr : xOp gMod (xOp gIxL (xVar 0) (xC (.int 0))) (xVar 1) [some (.ref f), some (.int m), none] h = .ok (.int (a % m)) h := by
      simp only [runF, startS, sSeq, sSet, sRet, sRetN, sIf, sDrop, sAsg, sNext, sNever, sAug, asg_nm, asg_2, asg_3, asg_4, xVar, xC, aNil, aCons, xOp, xCall, xMt, xTup, xLst, xIf, xAnd, xOr, xNot, bOf, bTru, bAnd, bOr, bNot, bYes, gI2, gAdd, gSub, gLt, gLe, gGt, gGe, gIxT, gLen, gMin2, gMax2, gIsN, Rs.bind_ok, Rs.bind_exc, Rs.toS_ok, Rs.toS_exc, List.map_cons, List.map_nil, List.length_cons, List.length_nil, List.replicate, List.cons_append, List.nil_append, List.getElem?_cons_zero, List.getElem?_cons_succ, List.getElem?_nil, List.set_cons_zero, List.set_cons_succ, Nat.reduceAdd, Nat.reduceSub, Nat.reduceEqDiff, if_true, if_false, if_pos rfl, reduceIte, decide_true, decide_false, Bool.not_true, Bool.not_false, sizeLine_eq, Nat.reduceLeDiff, eqd_int, xFld, Bool.true_eq_false, Bool.false_eq_true, ite_toS, ite_bind, hx0, h1]
    unfold r_law_take
    simp only [Rs.bind_ok, Rs.bind_exc, Rs.toS_ok, Rs.toS_exc, List.map_cons, List.map_nil, List.length_cons, List.length_nil, List.replicate, List.cons_append, List.nil_append, List.getElem?_cons_zero, List.getElem?_cons_succ, List.getElem?_nil, List.set_cons_zero, List.set_cons_succ, Nat.reduceAdd, Nat.reduceSub, Nat.reduceEqDiff, if_true, if_false, if_pos rfl, reduceIte, runF, startS, sSeq, sIf, hc, sSet, hr, hs, sRet, xVar]
  · refine ⟨(b * 6364136223846793005 + 1442695040888963407) % 2305843009213693951 / 65536 % m, a, (b * 6364136223846793005 + 1442695040888963407) % 2305843009213693951, ⟨Int.emod_nonneg _ (by omega), Int.emod_lt_of_pos _ hm⟩, ?_⟩
    have h1 := mul_int (a := b) (m := 6364136223846793005) (by decide) (by decide) h
    have h2 := mod_int (a := b * 6364136223846793005 + 1442695040888963407) (m := 2305843009213693951) (by decide) h
    have hs : sSetL (xVar 0) (xC (.int 1)) (xOp gMod (xOp gAdd (xOp gMul (xOp gIxL (xVar 0) (xC (.int 1))) (xC (.int 6364136223846793005))) (xC (.int 1442695040888963407))) (xC (.int 2305843009213693951))) [some (.ref f), some (.int m), none] h = .nx [some (.ref f), some (.int m), none] (h.set f (.lst [.int a, .int ((b * 6364136223846793005 + 1442695040888963407) % 2305843009213693951)])) := by
      unfold sSetL
      simp only [runF, startS, sSeq, sSet, sRet, sRetN, sIf, sDrop, sAsg, sNext, sNever, sAug, asg_nm, asg_2, asg_3, asg_4, xVar, xC, aNil, aCons, xOp, xCall, xMt, xTup, xLst, xIf, xAnd, xOr, xNot, bOf, bTru, bAnd, bOr, bNot, bYes, gI2, gAdd, gSub, gLt, gLe, gGt, gGe, gIxT, gLen, gMin2, gMax2, gIsN, Rs.bind_ok, Rs.bind_exc, Rs.toS_ok, Rs.toS_exc, List.map_cons, List.map_nil, List.length_cons, List.length_nil, List.replicate, List.cons_append, List.nil_append, List.getElem?_cons_zero, List.getElem?_cons_succ, List.getElem?_nil, List.set_cons_zero, List.set_cons_succ, Nat.reduceAdd, Nat.reduceSub, Nat.reduceEqDiff, if_true, if_false, if_pos rfl, reduceIte, decide_true, decide_false, Bool.not_true, Bool.not_false, sizeLine_eq, Nat.reduceLeDiff, eqd_int, xFld, Bool.true_eq_false, Bool.false_eq_true, ite_toS, ite_bind, hx1, h1, h2, hf]
      rfl
    have hg : (h.set f (.lst [.int a, .int ((b * 6364136223846793005 + 1442695040888963407) % 2305843009213693951)]))[f]? = some (.lst [.int a, .int ((b * 6364136223846793005 + 1442695040888963407) % 2305843009213693951)]) := List.getElem?_set_self hlt
    have hx3 : gIxL (.ref f) (.int 1) (h.set f (.lst [.int a, .int ((b * 6364136223846793005 + 1442695040888963407) % 2305843009213693951)])) = .ok (.int ((b * 6364136223846793005 + 1442695040888963407) % 2305843009213693951)) (h.set f (.lst [.int a, .int ((b * 6364136223846793005 + 1442695040888963407) % 2305843009213693951)])) := by
      unfold gIxL asL
      dsimp only
      rw [hg]
      rfl
    have h3 := div_int (a := (b * 6364136223846793005 + 1442695040888963407) % 2305843009213693951) (m := 65536) (by decide) (by decide) (h.set f (.lst [.int a, .int ((b * 6364136223846793005 + 1442695040888963407) % 2305843009213693951)]))
    have h4 := mod_int (a := (b * 6364136223846793005 + 1442695040888963407) % 2305843009213693951 / 65536) hm (h.set f (.lst [.int a, .int ((b * 6364136223846793005 + 1442695040888963407) % 2305843009213693951)]))
    have hc : bOf (xOp gGt (xOp gIxL (xVar 0) (xC (.int 0))) (xC (.int 0))) [some (.ref f), some (.int m), none] h = .ok false h := by
      simp only [runF, startS, sSeq, sSet, sRet, sRetN, sIf, sDrop, sAsg, sNext, sNever, sAug, asg_nm, asg_2, asg_3, asg_4, xVar, xC, aNil, aCons, xOp, xCall, xMt, xTup, xLst, xIf, xAnd, xOr, xNot, bOf, bTru, bAnd, bOr, bNot, bYes, gI2, gAdd, gSub, gLt, gLe, gGt, gGe, gIxT, gLen, gMin2, gMax2, gIsN, Rs.bind_ok, Rs.bind_exc, Rs.toS_ok, Rs.toS_exc, List.map_cons, List.map_nil, List.length_cons, List.length_nil, List.replicate, List.cons_append, List.nil_append, List.getElem?_cons_zero, List.getElem?_cons_succ, List.getElem?_nil, List.set_cons_zero, List.set_cons_succ, Nat.reduceAdd, Nat.reduceSub, Nat.reduceEqDiff, if_true, if_false, if_pos rfl, reduceIte, decide_true, decide_false, Bool.not_true, Bool.not_false, sizeLine_eq, Nat.reduceLeDiff, eqd_int, xFld, Bool.true_eq_false, Bool.false_eq_true, ite_toS, ite_bind, hx0, ha]
    have hr : xOp gMod (xOp gDiv (xOp gIxL (xVar 0) (xC (.int 1))) (xC (.int 65536))) (xVar 1) [some (.ref f), some (.int m), none] (h.set f (.lst [.int a, .int ((b * 6364136223846793005 + 1442695040888963407) % 2305843009213693951)])) = .ok (.int ((b * 6364136223846793005 + 1442695040888963407) % 2305843009213693951 / 65536 % m)) (h.set f (.lst [.int a, .int ((b * 6364136223846793005 + 1442695040888963407) % 2305843009213693951)])) := by
      simp only [runF, startS, sSeq, sSet, sRet, sRetN, sIf, sDrop, sAsg, sNext, sNever, sAug, asg_nm, asg_2, asg_3, asg_4, xVar, xC, aNil, aCons, xOp, xCall, xMt, xTup, xLst, xIf, xAnd, xOr, xNot, bOf, bTru, bAnd, bOr, bNot, bYes, gI2, gAdd, gSub, gLt, gLe, gGt, gGe, gIxT, gLen, gMin2, gMax2, gIsN, Rs.bind_ok, Rs.bind_exc, Rs.toS_ok, Rs.toS_exc, List.map_cons, List.map_nil, List.length_cons, List.length_nil, List.replicate, List.cons_append, List.nil_append, List.getElem?_cons_zero, List.getElem?_cons_succ, List.getElem?_nil, List.set_cons_zero, List.set_cons_succ, Nat.reduceAdd, Nat.reduceSub, Nat.reduceEqDiff, if_true, if_false, if_pos rfl, reduceIte, decide_true, decide_false, Bool.not_true, Bool.not_false, sizeLine_eq, Nat.reduceLeDiff, eqd_int, xFld, Bool.true_eq_false, Bool.false_eq_true, ite_toS, ite_bind, hx3, h3, h4]
    unfold r_law_take
    simp only [Rs.bind_ok, Rs.bind_exc, Rs.toS_ok, Rs.toS_exc, List.map_cons, List.map_nil, List.length_cons, List.length_nil, List.replicate, List.cons_append, List.nil_append, List.getElem?_cons_zero, List.getElem?_cons_succ, List.getElem?_nil, List.set_cons_zero, List.set_cons_succ, Nat.reduceAdd, Nat.reduceSub, Nat.reduceEqDiff, if_true, if_false, if_pos rfl, reduceIte, runF, startS, sSeq, sIf, hc, sNext, hs, sRet, hr, Bool.false_eq_true]
/-! ### steps -/
def Ext (h h' : Hh) : Prop := ∀ (i : Nat) (o : Ob), h[i]? = some o → h'[i]? = some o
theorem Ext.refl (h : Hh) : Ext h h := fun _ _ e => e
theorem Ext.app {h h' : Hh} (x : Ext h h') (t : Hh) : Ext h (h' ++ t) := fun i o e => get_app (x i o e) t
theorem Ext.set {h h' : Hh} (x : Ext h h') {n : Nat} (hn : h.length ≤ n) (o : Ob) : Ext h (h'.set n o) := fun i u e => by
  have := (List.getElem?_eq_some_iff.mp e).1
  rw [List.getElem?_set_ne (by omega)]
  exact x i u e
theorem range1_ok {fa : Ea} {st : Sl} {h : Hh} {j : Int} (e : fa st h = .ok [.int j] h) (h1 : 0 ≤ j) (h2 : j ≤ 1000000) : iRange1 fa st h = .ok ((List.range' 0 j.toNat).map fun i => PV.int (i : Nat)) h := by
  have hr : intR 0 j.toNat = (List.range' 0 j.toNat).map fun i => PV.int (i : Nat) := by
    unfold intR
    rw [List.range_eq_range']
    exact List.map_congr_left fun i _ => by rw [Int.zero_add]
  unfold iRange1
  rw [e, Rs.bind_ok]
  dsimp only
  rw [if_pos ⟨by omega, by omega⟩, hr]
theorem sSeq_nx {f g : Sx} {st st1 : Sl} {h h1 : Hh} (e : f st h = .nx st1 h1) : sSeq f g st h = g st1 h1 := by
  unfold sSeq
  rw [e]
theorem sIf_f {c : Eb} {f g : Sx} {st : Sl} {h h1 : Hh} (e : c st h = .ok false h1) : sIf c f g st h = g st h1 := by
  unfold sIf
  rw [e]
  rfl
theorem sFor_ok {fi : Sl → Hh → Rs (List PV)} {t : Tg} {fb : Sx} {st : Sl} {h h1 : Hh} {l : List PV} (e : fi st h = .ok l h1) : sFor fi t fb st h = forL t fb l st h1 := by
  unfold sFor
  rw [e]
  rfl
theorem runF_ret {m n : Nat} {f : Sx} {as : List PV} {h h1 : Hh} {v : PV} (hl : as.length = m) (e : f (startS n as) h = .ret v h1) : runF m n f as h = .ok v h1 := by
  unfold runF
  rw [if_pos hl, e]
theorem sIf_t {c : Eb} {f g : Sx} {st : Sl} {h h1 : Hh} (e : c st h = .ok true h1) : sIf c f g st h = f st h1 := by
  unfold sIf
  rw [e]
  rfl
theorem sSet_ok {i : Nat} {f : Ex} {st : Sl} {h h1 : Hh} {v : PV} (e : f st h = .ok v h1) : sSet i f st h = .nx (st.set i (some v)) h1 := by
  unfold sSet
  rw [e]
  rfl
theorem sRet_ok {f : Ex} {st : Sl} {h h1 : Hh} {v : PV} (e : f st h = .ok v h1) : sRet f st h = .ret v h1 := by
  unfold sRet
  rw [e]
  rfl
end TR

set_option Elab.async false
set_option linter.all false
set_option maxRecDepth 100000
set_option maxHeartbeats 4000000
namespace TR
open PySem PySem.Spec L2
open SX (S)

/-! ### what is worked out for each row -/
def ascB : List Int → Bool
  | [] => true
  | a :: r => (r.all fun b => decide (a < b)) && ascB r
theorem ascB_ok : ∀ {l : List Int}, ascB l = true → l.Pairwise (· < ·)
  | [], _ => .nil
  | a :: r, e => by
    obtain ⟨h1, h2⟩ := He.ba (show ((r.all fun b => decide (a < b)) && ascB r) = true from e)
    exact .cons (fun b hb => of_decide_eq_true (List.all_eq_true.mp h1 b hb)) (ascB_ok h2)
def ascN : List Nat → Bool
  | [] => true
  | a :: r => (r.all fun b => decide (a < b)) && ascN r
theorem ascN_ok : ∀ {l : List Nat}, ascN l = true → l.Pairwise (· < ·)
  | [], _ => .nil
  | a :: r, e => by
    obtain ⟨h1, h2⟩ := He.ba (show ((r.all fun b => decide (a < b)) && ascN r) = true from e)
    exact .cons (fun b hb => of_decide_eq_true (List.all_eq_true.mp h1 b hb)) (ascN_ok h2)
def oB {α : Type} (f : α → Bool) : Option α → Bool
  | none => true
  | some a => f a
def SD.wfB (d : SD) : Bool := decide (1 ≤ d.slots ∧ d.slots ≤ 8) && (oB (fun p => !p.isEmpty && ((p.all fun k => decide (0 ≤ k ∧ k < d.slots)) && ascB p)) d.peak && (!d.rides.isEmpty && (decide (d.rides.length ≤ 3) && ((d.rides.all fun q => decide (97 ≤ q.1 ∧ q.1 ≤ 122 ∧ Sm q.2.1 ∧ Sm q.2.2)) && (ascN (d.rides.map (·.1)) && (oB (fun q => decide ((0 ≤ q.1 ∧ q.1 ≤ 4) ∧ Sm q.2)) d.transfer && (oB (fun k => decide (Sm k)) d.cap && oB (fun k => decide (2 ≤ k ∧ k ≤ 4)) d.bonus)))))))
theorem SD.wfB_ok {d : SD} (e : d.wfB = true) : d.WF := by
  obtain ⟨e1, e⟩ := He.ba e
  obtain ⟨e2, e⟩ := He.ba e
  obtain ⟨e3, e⟩ := He.ba e
  obtain ⟨e4, e⟩ := He.ba e
  obtain ⟨e5, e⟩ := He.ba e
  obtain ⟨e6, e⟩ := He.ba e
  obtain ⟨e7, e⟩ := He.ba e
  obtain ⟨e8, e9⟩ := He.ba e
  refine ⟨of_decide_eq_true e1, fun p hp => ?_, fun z => ?_, of_decide_eq_true e4, fun q hq => of_decide_eq_true (List.all_eq_true.mp e5 q hq), ascN_ok e6, fun q hq => ?_, fun k hk => ?_, fun k hk => ?_⟩
  · rw [hp] at e2
    obtain ⟨a, b⟩ := He.ba e2
    obtain ⟨b, c⟩ := He.ba b
    refine ⟨fun z => ?_, fun k hk => of_decide_eq_true (List.all_eq_true.mp b k hk), ascB_ok c⟩
    rw [z] at a
    cases a
  · rw [z] at e3
    cases e3
  · rw [hq] at e7
    exact of_decide_eq_true e7
  · rw [hk] at e8
    exact of_decide_eq_true e8
  · rw [hk] at e9
    exact of_decide_eq_true e9
end TR

set_option Elab.async false
set_option linter.all false
set_option maxRecDepth 100000
set_option maxHeartbeats 4000000
namespace TR
open PySem PySem.Spec L2
open SX (S)

/-! ### the law's own fares -/
def kindP (q : Nat × Int × Int) : PV := .tup [.str (ch q.1), .int q.2.1, .int q.2.2]
def peakL (d : SD) : List Int := d.peak.getD []
def fareL (d : SD) : List (PV × PV) := [(.str "slots", .int d.slots), (.str "peak", .lst ((peakL d).map .int)), (.str "transfer", oT d.transfer), (.str "cap", oI d.cap), (.str "bonus", oI d.bonus), (.str "kinds", .lst (d.rides.map kindP))]
/-- the dict at f is this fare -/
def Fare (h : Hh) (f : Nat) (d : SD) : Prop := h[f]? = some (.dct (fareL d))
theorem fget {h : Hh} {f : Nat} {l : List (PV × PV)} {k : Str} {v : PV} (F : h[f]? = some (.dct l)) (e : dLook l (.inr k) = some v) : gDGet (.ref f) (.str k) h = .ok v h := by
  unfold gDGet asD keyV
  dsimp only
  rw [F]
  dsimp only
  rw [e]
section
variable {h : Hh} {f : Nat} {d : SD}
theorem f_slots (F : Fare h f d) : gDGet (.ref f) (.str "slots") h = .ok (.int d.slots) h := fget F rfl
theorem f_peak (F : Fare h f d) : gDGet (.ref f) (.str "peak") h = .ok (.lst ((peakL d).map .int)) h := fget F rfl
theorem f_transfer (F : Fare h f d) : gDGet (.ref f) (.str "transfer") h = .ok (oT d.transfer) h := fget F rfl
theorem f_cap (F : Fare h f d) : gDGet (.ref f) (.str "cap") h = .ok (oI d.cap) h := fget F rfl
theorem f_bonus (F : Fare h f d) : gDGet (.ref f) (.str "bonus") h = .ok (oI d.bonus) h := fget F rfl
theorem f_kinds (F : Fare h f d) : gDGet (.ref f) (.str "kinds") h = .ok (.lst (d.rides.map kindP)) h := fget F rfl
theorem loop_first (st : Sl) (hst : 1 < st.length) : ∀ (l : List (Nat × Int × Int)) (acc : List PV), acc.length + l.length ≤ 1000 → lcL (.nm 1) bYes (xOp gIxT (xVar 1) (xC (.int 0))) st (l.map kindP) acc h = .ok (acc ++ l.map fun q => .str (ch q.1)) h
  | [], acc, hz => by
    show Rs.ok acc h = _
    rw [List.map_nil, List.append_nil]
  | q :: l, acc, hz => by
    simp only [List.length_cons] at hz
    have ih := loop_first st hst l (acc ++ [.str (ch q.1)]) (by simp only [List.length_append, List.length_cons, List.length_nil]; omega)
    have hx : (st.set 1 (some (kindP q)))[1]? = some (some (.tup [.str (ch q.1), .int q.2.1, .int q.2.2])) := List.getElem?_set_self hst
    have he : xOp gIxT (xVar 1) (xC (.int 0)) (st.set 1 (some (kindP q))) h = .ok (.str (ch q.1)) h := by
      simp only [runF, startS, sSeq, sSet, sRet, sRetN, sIf, sDrop, sAsg, sNext, sNever, sAug, asg_nm, asg_2, asg_3, asg_4, xVar, xC, aNil, aCons, xOp, xCall, xMt, xTup, xLst, xIf, xAnd, xOr, xNot, bOf, bTru, bAnd, bOr, bNot, bYes, gI2, gAdd, gSub, gLt, gLe, gGt, gGe, gIxT, gLen, gMin2, gMax2, gIsN, Rs.bind_ok, Rs.bind_exc, Rs.toS_ok, Rs.toS_exc, List.map_cons, List.map_nil, List.length_cons, List.length_nil, List.replicate, List.cons_append, List.nil_append, List.getElem?_cons_zero, List.getElem?_cons_succ, List.getElem?_nil, List.set_cons_zero, List.set_cons_succ, Nat.reduceAdd, Nat.reduceSub, Nat.reduceEqDiff, if_true, if_false, if_pos rfl, reduceIte, decide_true, decide_false, Bool.not_true, Bool.not_false, sizeLine_eq, Nat.reduceLeDiff, eqd_int, xFld, Bool.true_eq_false, Bool.false_eq_true, ite_toS, ite_bind, hx, atI0]
    have ha : acc.length < sizeLine := by rw [sizeLine_eq]; omega
    rw [List.map_cons, lcL]
    simp only [Rs.bind_ok, Rs.bind_exc, Rs.toS_ok, Rs.toS_exc, List.map_cons, List.map_nil, List.length_cons, List.length_nil, List.replicate, List.cons_append, List.nil_append, List.getElem?_cons_zero, List.getElem?_cons_succ, List.getElem?_nil, List.set_cons_zero, List.set_cons_succ, Nat.reduceAdd, Nat.reduceSub, Nat.reduceEqDiff, if_true, if_false, if_pos rfl, reduceIte, asg_nm, bYes, he, ha]
    rw [ih, List.append_assoc]
    rfl
theorem run_lletters (F : Fare h f d) (W : d.Fit) : r_law_letters [.ref f] h = .ok (.str ⟨d.sys.lets.toArray⟩) h := by
  have hk := f_kinds F
  have hl := loop_first (h := h) [some (.ref f), none] (by show 1 < 2; decide) d.rides [] (by have := W.rz; simp only [List.length_nil]; omega)
  rw [List.nil_append] at hl
  have hlc : xLc (iLst (xOp gDGet (xVar 0) (xC (.str "kinds")))) (.nm 1) (bYes) (xOp gIxT (xVar 1) (xC (.int 0))) [1] [some (.ref f), none] h = .ok (.lst ((d.rides.map (·.1)).map fun c => PV.str (ch c))) h := by
    have hi : iLst (xOp gDGet (xVar 0) (xC (.str "kinds"))) [some (.ref f), none] h = .ok (d.rides.map kindP) h := by
      unfold iLst
      simp only [runF, startS, sSeq, sSet, sRet, sRetN, sIf, sDrop, sAsg, sNext, sNever, sAug, asg_nm, asg_2, asg_3, asg_4, xVar, xC, aNil, aCons, xOp, xCall, xMt, xTup, xLst, xIf, xAnd, xOr, xNot, bOf, bTru, bAnd, bOr, bNot, bYes, gI2, gAdd, gSub, gLt, gLe, gGt, gGe, gIxT, gLen, gMin2, gMax2, gIsN, Rs.bind_ok, Rs.bind_exc, Rs.toS_ok, Rs.toS_exc, List.map_cons, List.map_nil, List.length_cons, List.length_nil, List.replicate, List.cons_append, List.nil_append, List.getElem?_cons_zero, List.getElem?_cons_succ, List.getElem?_nil, List.set_cons_zero, List.set_cons_succ, Nat.reduceAdd, Nat.reduceSub, Nat.reduceEqDiff, if_true, if_false, if_pos rfl, reduceIte, decide_true, decide_false, Bool.not_true, Bool.not_false, sizeLine_eq, Nat.reduceLeDiff, eqd_int, xFld, Bool.true_eq_false, Bool.false_eq_true, ite_toS, ite_bind, hk]
    unfold xLc
    rw [hi]
    simp only [Rs.bind_ok, Rs.bind_exc, Rs.toS_ok, Rs.toS_exc, List.map_cons, List.map_nil, List.length_cons, List.length_nil, List.replicate, List.cons_append, List.nil_append, List.getElem?_cons_zero, List.getElem?_cons_succ, List.getElem?_nil, List.set_cons_zero, List.set_cons_succ, Nat.reduceAdd, Nat.reduceSub, Nat.reduceEqDiff, if_true, if_false, if_pos rfl, reduceIte, wipeS, hl]
    rw [List.map_map]
    rfl
  have hj : gJoin (.str "") [.lst ((d.rides.map (·.1)).map fun c => PV.str (ch c))] h = .ok (.str (S (d.rides.map (·.1)))) h := by
    unfold gJoin
    dsimp only
    have e : strList (.lst ((d.rides.map (·.1)).map fun c => PV.str (ch c))) h = some ((d.rides.map (·.1)).map ch) := by
      show (some ((d.rides.map (·.1)).map fun c => PV.str (ch c))).bind strsOf = _
      rw [Option.bind_some, strs_map]
    rw [e]
    dsimp only
    have hl : ("" : Str).length = 0 := by decide +kernel
    have hs : (((d.rides.map (·.1)).map ch).map (fun y : Str => y.length)).sum = d.rides.length := by
      rw [List.map_map]
      generalize d.rides = l
      induction l with
      | nil => rfl
      | cons q r ih =>
        simp only [List.map_cons, List.sum_cons, ih, List.length_cons, Function.comp]
        show 1 + r.length = _
        omega
    rw [hl, hs, if_pos (by have := W.rz; omega), join_chs]
  have h3 : gCatS (.str (S (d.rides.map (·.1)))) (.str ".") h = .ok (.str ⟨d.sys.lets.toArray⟩) h := by
    have e1 : ("." : Str) = S [46] := by decide +kernel
    rw [e1]
    unfold gCatS
    dsimp only
    rw [SX.S_cat, SX.S_len, SX.S_len, if_pos (by have := W.rz; rw [sizeLine_eq, List.length_map]; simp only [List.length_cons, List.length_nil]; omega)]
    rfl
  unfold r_law_letters
  simp only [Rs.bind_ok, Rs.bind_exc, Rs.toS_ok, Rs.toS_exc, List.map_cons, List.map_nil, List.length_cons, List.length_nil, List.replicate, List.cons_append, List.nil_append, List.getElem?_cons_zero, List.getElem?_cons_succ, List.getElem?_nil, List.set_cons_zero, List.set_cons_succ, Nat.reduceAdd, Nat.reduceSub, Nat.reduceEqDiff, if_true, if_false, if_pos rfl, reduceIte, runF, startS, sRet, xOp, xBM, xC, tStr, aCons, hlc, aNil, hj, h3]
/-- the price in a slot -/
def priceIn (d : SD) (slot : Int) (q : Int × Int) : Int := if (peakL d).contains slot then q.2 else q.1
def bB : Sx := sIf (bOf (xOp (gEqD false) (xVar 4) (xVar 1))) (sSet 3 (xIf (bOf (xOp (gIn false) (xVar 2) (xOp gDGet (xVar 0) (xC (.str "peak"))))) (xVar 6) (xVar 5))) (sNext)
theorem base_def : r_law_base = runF 3 7 (sSeq (sSet 3 (xC (.int 0))) (sSeq (sFor (iLst (xOp gDGet (xVar 0) (xC (.str "kinds")))) (.tp [.nm 4, .nm 5, .nm 6]) bB) (sRet (xVar 3)))) := rfl
theorem in_intsL (l : List Int) (k : Int) (h : Hh) : gIn false (.int k) (.lst (l.map .int)) h = .ok (.bl (l.contains k)) h := in_ints (h := h) l k
theorem ch_inj {a b : Nat} (e : ch a = ch b) : a = b := by
  have z3 : (#[a] : Array Nat) = #[b] := congrArg Str.cps e
  simpa using z3
theorem loop_B (F : Fare h f d) {x : Nat} {slot : Int} (hx : PyData.strOk (ch x) = true) : ∀ (l : List (Nat × Int × Int)) (v : Int) (s4 s5 s6 : Option PV), (∀ q ∈ l, PyData.strOk (ch q.1) = true) → (l.map (·.1)).Nodup →
    ∃ b4 b5 b6, forL (.tp [.nm 4, .nm 5, .nm 6]) bB (l.map kindP) [some (.ref f), some (.str (ch x)), some (.int slot), some (.int v), s4, s5, s6] h = .nx [some (.ref f), some (.str (ch x)), some (.int slot), some (.int (match l.lookup x with | some q => priceIn d slot q | none => v)), b4, b5, b6] h
  | [], v, s4, s5, s6, _, _ => ⟨s4, s5, s6, rfl⟩
  | q :: l, v, s4, s5, s6, ho, hn => by
    obtain ⟨c, p, pp⟩ := q
    rw [List.map_cons, List.nodup_cons] at hn
    have he := eqd_str false (ch c) (ch x) h (ho _ List.mem_cons_self) hx
    have hp := f_peak F
    have hi := in_intsL (peakL d) slot h
    rw [List.map_cons]
    show ∃ b4 b5 b6, forL _ bB (.tup [.str (ch c), .int p, .int pp] :: l.map kindP) _ h = _
    rw [List.lookup_cons]
    by_cases hc : x = c
    · subst hc
      rw [decide_eq_true rfl] at he
      have hb : bB [some (.ref f), some (.str (ch x)), some (.int slot), some (.int v), some (.str (ch x)), some (.int p), some (.int pp)] h = .nx [some (.ref f), some (.str (ch x)), some (.int slot), some (.int (priceIn d slot (p, pp))), some (.str (ch x)), some (.int p), some (.int pp)] h := by
        unfold bB priceIn
        cases hk : (peakL d).contains slot
        · rw [hk] at hi
          simp only [runF, startS, sSeq, sSet, sRet, sRetN, sIf, sDrop, sAsg, sNext, sNever, sAug, asg_nm, asg_2, asg_3, asg_4, xVar, xC, aNil, aCons, xOp, xCall, xMt, xTup, xLst, xIf, xAnd, xOr, xNot, bOf, bTru, bAnd, bOr, bNot, bYes, gI2, gAdd, gSub, gLt, gLe, gGt, gGe, gIxT, gLen, gMin2, gMax2, gIsN, Rs.bind_ok, Rs.bind_exc, Rs.toS_ok, Rs.toS_exc, List.map_cons, List.map_nil, List.length_cons, List.length_nil, List.replicate, List.cons_append, List.nil_append, List.getElem?_cons_zero, List.getElem?_cons_succ, List.getElem?_nil, List.set_cons_zero, List.set_cons_succ, Nat.reduceAdd, Nat.reduceSub, Nat.reduceEqDiff, if_true, if_false, if_pos rfl, reduceIte, decide_true, decide_false, Bool.not_true, Bool.not_false, sizeLine_eq, Nat.reduceLeDiff, eqd_int, xFld, Bool.true_eq_false, Bool.false_eq_true, ite_toS, ite_bind, he, hp, hi, hk]
        · rw [hk] at hi
          simp only [runF, startS, sSeq, sSet, sRet, sRetN, sIf, sDrop, sAsg, sNext, sNever, sAug, asg_nm, asg_2, asg_3, asg_4, xVar, xC, aNil, aCons, xOp, xCall, xMt, xTup, xLst, xIf, xAnd, xOr, xNot, bOf, bTru, bAnd, bOr, bNot, bYes, gI2, gAdd, gSub, gLt, gLe, gGt, gGe, gIxT, gLen, gMin2, gMax2, gIsN, Rs.bind_ok, Rs.bind_exc, Rs.toS_ok, Rs.toS_exc, List.map_cons, List.map_nil, List.length_cons, List.length_nil, List.replicate, List.cons_append, List.nil_append, List.getElem?_cons_zero, List.getElem?_cons_succ, List.getElem?_nil, List.set_cons_zero, List.set_cons_succ, Nat.reduceAdd, Nat.reduceSub, Nat.reduceEqDiff, if_true, if_false, if_pos rfl, reduceIte, decide_true, decide_false, Bool.not_true, Bool.not_false, sizeLine_eq, Nat.reduceLeDiff, eqd_int, xFld, Bool.true_eq_false, Bool.false_eq_true, ite_toS, ite_bind, he, hp, hi, hk]
      obtain ⟨b4, b5, b6, ih⟩ := loop_B F (slot := slot) hx l (priceIn d slot (p, pp)) (some (.str (ch x))) (some (.int p)) (some (.int pp)) (fun q hq => ho q (List.mem_cons_of_mem _ hq)) hn.2
      have hnone : l.lookup x = none := List.lookup_eq_none_iff.mpr fun q hq => bne_iff_ne.mpr fun z => hn.1 (by show x ∈ _; rw [z]; exact List.mem_map_of_mem hq)
      rw [hnone] at ih
      refine ⟨b4, b5, b6, ?_⟩
      rw [forL, asg_3]
      simp only [Rs.bind_ok, Rs.bind_exc, Rs.toS_ok, Rs.toS_exc, List.map_cons, List.map_nil, List.length_cons, List.length_nil, List.replicate, List.cons_append, List.nil_append, List.getElem?_cons_zero, List.getElem?_cons_succ, List.getElem?_nil, List.set_cons_zero, List.set_cons_succ, Nat.reduceAdd, Nat.reduceSub, Nat.reduceEqDiff, if_true, if_false, if_pos rfl, reduceIte, hb, beq_self_eq_true]
      exact ih
    · have hc2 : ¬ ch c = ch x := fun z => hc (ch_inj z).symm
      rw [decide_eq_false hc2] at he
      have hb : bB [some (.ref f), some (.str (ch x)), some (.int slot), some (.int v), some (.str (ch c)), some (.int p), some (.int pp)] h = .nx [some (.ref f), some (.str (ch x)), some (.int slot), some (.int v), some (.str (ch c)), some (.int p), some (.int pp)] h := by
        unfold bB
        simp only [runF, startS, sSeq, sSet, sRet, sRetN, sIf, sDrop, sAsg, sNext, sNever, sAug, asg_nm, asg_2, asg_3, asg_4, xVar, xC, aNil, aCons, xOp, xCall, xMt, xTup, xLst, xIf, xAnd, xOr, xNot, bOf, bTru, bAnd, bOr, bNot, bYes, gI2, gAdd, gSub, gLt, gLe, gGt, gGe, gIxT, gLen, gMin2, gMax2, gIsN, Rs.bind_ok, Rs.bind_exc, Rs.toS_ok, Rs.toS_exc, List.map_cons, List.map_nil, List.length_cons, List.length_nil, List.replicate, List.cons_append, List.nil_append, List.getElem?_cons_zero, List.getElem?_cons_succ, List.getElem?_nil, List.set_cons_zero, List.set_cons_succ, Nat.reduceAdd, Nat.reduceSub, Nat.reduceEqDiff, if_true, if_false, if_pos rfl, reduceIte, decide_true, decide_false, Bool.not_true, Bool.not_false, sizeLine_eq, Nat.reduceLeDiff, eqd_int, xFld, Bool.true_eq_false, Bool.false_eq_true, ite_toS, ite_bind, he]
      obtain ⟨b4, b5, b6, ih⟩ := loop_B F (slot := slot) hx l v (some (.str (ch c))) (some (.int p)) (some (.int pp)) (fun q hq => ho q (List.mem_cons_of_mem _ hq)) hn.2
      refine ⟨b4, b5, b6, ?_⟩
      rw [forL, asg_3]
      simp only [Rs.bind_ok, Rs.bind_exc, Rs.toS_ok, Rs.toS_exc, List.map_cons, List.map_nil, List.length_cons, List.length_nil, List.replicate, List.cons_append, List.nil_append, List.getElem?_cons_zero, List.getElem?_cons_succ, List.getElem?_nil, List.set_cons_zero, List.set_cons_succ, Nat.reduceAdd, Nat.reduceSub, Nat.reduceEqDiff, if_true, if_false, if_pos rfl, reduceIte, hb, beq_false_of_ne hc]
      exact ih
theorem run_base (F : Fare h f d) (W : d.Fit) {x : Nat} {slot : Int} {q : Int × Int} (hx : PyData.strOk (ch x) = true) (hq : d.rides.lookup x = some q) : r_law_base [.ref f, .str (ch x), .int slot] h = .ok (.int (priceIn d slot q)) h := by
  have hk := f_kinds F
  obtain ⟨b4, b5, b6, hl⟩ := loop_B F (slot := slot) hx d.rides 0 none none none (fun q hq => W.ok q hq) W.nd
  rw [hq] at hl
  have hi : iLst (xOp gDGet (xVar 0) (xC (.str "kinds"))) [some (.ref f), some (.str (ch x)), some (.int slot), some (.int 0), none, none, none] h = .ok (d.rides.map kindP) h := by
    unfold iLst
    simp only [runF, startS, sSeq, sSet, sRet, sRetN, sIf, sDrop, sAsg, sNext, sNever, sAug, asg_nm, asg_2, asg_3, asg_4, xVar, xC, aNil, aCons, xOp, xCall, xMt, xTup, xLst, xIf, xAnd, xOr, xNot, bOf, bTru, bAnd, bOr, bNot, bYes, gI2, gAdd, gSub, gLt, gLe, gGt, gGe, gIxT, gLen, gMin2, gMax2, gIsN, Rs.bind_ok, Rs.bind_exc, Rs.toS_ok, Rs.toS_exc, List.map_cons, List.map_nil, List.length_cons, List.length_nil, List.replicate, List.cons_append, List.nil_append, List.getElem?_cons_zero, List.getElem?_cons_succ, List.getElem?_nil, List.set_cons_zero, List.set_cons_succ, Nat.reduceAdd, Nat.reduceSub, Nat.reduceEqDiff, if_true, if_false, if_pos rfl, reduceIte, decide_true, decide_false, Bool.not_true, Bool.not_false, sizeLine_eq, Nat.reduceLeDiff, eqd_int, xFld, Bool.true_eq_false, Bool.false_eq_true, ite_toS, ite_bind, hk]
  rw [base_def]
  simp only [Rs.bind_ok, Rs.bind_exc, Rs.toS_ok, Rs.toS_exc, List.map_cons, List.map_nil, List.length_cons, List.length_nil, List.replicate, List.cons_append, List.nil_append, List.getElem?_cons_zero, List.getElem?_cons_succ, List.getElem?_nil, List.set_cons_zero, List.set_cons_succ, Nat.reduceAdd, Nat.reduceSub, Nat.reduceEqDiff, if_true, if_false, if_pos rfl, reduceIte, runF, startS, sSeq, sSet, xC, sFor, hi, hl, sRet, xVar]
end
end TR

set_option Elab.async false
set_option linter.all false
set_option maxRecDepth 100000
set_option maxHeartbeats 4000000
namespace TR
open PySem PySem.Spec L2
open SX (S)

/-! ### the law's step is the system's -/
structure SD.Inv (d : SD) (c : Cd) : Prop where
  slot : 0 ≤ c.slot ∧ c.slot < d.slots
  count : 0 ≤ c.count ∧ ∀ b, d.bonus = some b → c.count < b
  fit : c.fit d.sys
theorem inv_new {d : SD} (h : 1 ≤ d.slots) (hb : ∀ b, d.bonus = some b → 2 ≤ b) : d.Inv newC := ⟨⟨Int.le_refl _, by show (0 : Int) < _; omega⟩, ⟨Int.le_refl _, fun b e => by have := hb b e; show (0 : Int) < b; omega⟩, fit_new _⟩
theorem inv_step {d : SD} {c e : Cd} {x : Nat} {k : Int} (I : d.Inv c) (hb : ∀ b, d.bonus = some b → 2 ≤ b) (z : step d.sys c x = some (e, k)) : d.Inv e := by
  have hf := fit_step I.fit z
  obtain ⟨⟨i1, i2⟩, ⟨i3, i4⟩, _⟩ := I
  unfold step at z
  split at z
  · cases z
    unfold later at hf ⊢
    have hs : d.sys.slots = d.slots := rfl
    split
    · rename_i h1
      rw [if_pos h1] at hf
      exact ⟨⟨Int.le_refl _, by show (0 : Int) < _; omega⟩, ⟨i3, i4⟩, hf⟩
    · rename_i h1
      rw [if_neg h1] at hf
      rw [hs] at h1
      exact ⟨⟨by show 0 ≤ c.slot + 1; omega, by show c.slot + 1 < _; omega⟩, ⟨i3, i4⟩, hf⟩
  · obtain ⟨q, hq, e2⟩ := Option.map_eq_some_iff.mp z
    unfold ride at e2
    dsimp only at e2
    split at e2
    · cases e2
      exact ⟨⟨i1, i2⟩, ⟨i3, i4⟩, hf⟩
    · cases e2
      refine ⟨⟨i1, i2⟩, ?_, hf⟩
      unfold full
      have hbo : d.sys.bonus = d.bonus := rfl
      rw [hbo]
      cases hbb : d.bonus with
      | none => exact ⟨i3, fun b e => by cases e⟩
      | some b =>
        dsimp only
        have := i4 b hbb
        have := hb b hbb
        split
        · exact ⟨Int.le_refl _, fun b' e => by cases e; show (0 : Int) < b; omega⟩
        · exact ⟨by show 0 ≤ c.count + 1; omega, fun b' e => by cases e; show c.count + 1 < b; omega⟩
section
variable {h : Hh} {f : Nat} {d : SD}
theorem run_ldot (F : Fare h f d) {c : Cd} (I : d.Inv c) : r_law_step [.ref f, c.pv, .str (ch 46)] h = .ok (.tup [(later d.sys c).pv, .int 0]) h := by
  have hd : ch 46 = ("." : Str) := rfl
  have he := eqd_str false "." "." h dotOk dotOk
  rw [decide_eq_true rfl] at he
  have hs := f_slots F
  obtain ⟨⟨i1, i2⟩, _, _⟩ := I
  have hss : d.sys.slots = d.slots := rfl
  unfold r_law_step Cd.pv later
  rw [hd, hss]
  have e3 : (if c.left - 1 > 0 then c.left - 1 else 0) = mx (c.left - 1) 0 := by
    unfold mx
    split <;> split <;> omega
  by_cases hc : c.slot = d.slots - 1
  · have h1 : ¬ c.slot + 1 < d.slots := by omega
    have h2 : ¬ (0 : Int) < 0 := by omega
    rw [if_pos hc]
    simp only [runF, startS, sSeq, sSet, sRet, sRetN, sIf, sDrop, sAsg, sNext, sNever, sAug, asg_nm, asg_2, asg_3, asg_4, xVar, xC, aNil, aCons, xOp, xCall, xMt, xTup, xLst, xIf, xAnd, xOr, xNot, bOf, bTru, bAnd, bOr, bNot, bYes, gI2, gAdd, gSub, gLt, gLe, gGt, gGe, gIxT, gLen, gMin2, gMax2, gIsN, Rs.bind_ok, Rs.bind_exc, Rs.toS_ok, Rs.toS_exc, List.map_cons, List.map_nil, List.length_cons, List.length_nil, List.replicate, List.cons_append, List.nil_append, List.getElem?_cons_zero, List.getElem?_cons_succ, List.getElem?_nil, List.set_cons_zero, List.set_cons_succ, Nat.reduceAdd, Nat.reduceSub, Nat.reduceEqDiff, if_true, if_false, if_pos rfl, reduceIte, decide_true, decide_false, Bool.not_true, Bool.not_false, sizeLine_eq, Nat.reduceLeDiff, eqd_int, xFld, Bool.true_eq_false, Bool.false_eq_true, ite_toS, ite_bind, he, hs, h1, h2, e3]
  · have h1 : c.slot + 1 < d.slots := by omega
    have h2 : (0 : Int) < c.slot + 1 := by omega
    rw [if_neg hc]
    simp only [runF, startS, sSeq, sSet, sRet, sRetN, sIf, sDrop, sAsg, sNext, sNever, sAug, asg_nm, asg_2, asg_3, asg_4, xVar, xC, aNil, aCons, xOp, xCall, xMt, xTup, xLst, xIf, xAnd, xOr, xNot, bOf, bTru, bAnd, bOr, bNot, bYes, gI2, gAdd, gSub, gLt, gLe, gGt, gGe, gIxT, gLen, gMin2, gMax2, gIsN, Rs.bind_ok, Rs.bind_exc, Rs.toS_ok, Rs.toS_exc, List.map_cons, List.map_nil, List.length_cons, List.length_nil, List.replicate, List.cons_append, List.nil_append, List.getElem?_cons_zero, List.getElem?_cons_succ, List.getElem?_nil, List.set_cons_zero, List.set_cons_succ, Nat.reduceAdd, Nat.reduceSub, Nat.reduceEqDiff, if_true, if_false, if_pos rfl, reduceIte, decide_true, decide_false, Bool.not_true, Bool.not_false, sizeLine_eq, Nat.reduceLeDiff, eqd_int, xFld, Bool.true_eq_false, Bool.false_eq_true, ite_toS, ite_bind, he, hs, h1, h2, e3]
theorem run_lride (F : Fare h f d) (W : d.Fit) {c : Cd} (I : d.Inv c) {x : Nat} (hx : x ≠ 46) (ho : PyData.strOk (ch x) = true) {q : Int × Int} (hp : d.rides.lookup x = some q) : r_law_step [.ref f, c.pv, .str (ch x)] h = .ok (.tup [(ride d.sys c q).1.pv, .int (ride d.sys c q).2]) h := by
  have hd : ¬ ch x = ("." : Str) := fun z => hx ((ch_dot x).mp z)
  have he := eqd_str false (ch x) "." h ho dotOk
  rw [decide_eq_false hd] at he
  have hb := run_base F W (slot := c.slot) ho hp
  have hpk : priceIn d c.slot q = if d.sys.peak.contains c.slot then q.2 else q.1 := rfl
  have ht := f_transfer F
  have hk := f_cap F
  have hbo := f_bonus F
  obtain ⟨_, ⟨i3, i4⟩, hfit⟩ := I
  have t1 : d.sys.transfer = d.transfer := rfl
  have t2 : d.sys.cap = d.cap := rfl
  have t3 : d.sys.bonus = d.bonus := rfl
  unfold Cd.fit at hfit
  unfold r_law_step Cd.pv ride capped tPrice tLeft full
  rw [← hpk, t1, t2, t3]
  rw [t1] at hfit
  generalize priceIn d c.slot q = b at *
  by_cases hL : 0 < c.left
  · obtain ⟨⟨tt, tp⟩, hq⟩ := Option.isSome_iff_exists.mp (hfit hL)
    rw [hq] at ht ⊢
    cases hc : d.cap with
    | none =>
      rw [hc] at hk
      simp only [runF, startS, sSeq, sSet, sRet, sRetN, sIf, sDrop, sAsg, sNext, sNever, sAug, asg_nm, asg_2, asg_3, asg_4, xVar, xC, aNil, aCons, xOp, xCall, xMt, xTup, xLst, xIf, xAnd, xOr, xNot, bOf, bTru, bAnd, bOr, bNot, bYes, gI2, gAdd, gSub, gLt, gLe, gGt, gGe, gIxT, gLen, gMin2, gMax2, gIsN, Rs.bind_ok, Rs.bind_exc, Rs.toS_ok, Rs.toS_exc, List.map_cons, List.map_nil, List.length_cons, List.length_nil, List.replicate, List.cons_append, List.nil_append, List.getElem?_cons_zero, List.getElem?_cons_succ, List.getElem?_nil, List.set_cons_zero, List.set_cons_succ, Nat.reduceAdd, Nat.reduceSub, Nat.reduceEqDiff, if_true, if_false, if_pos rfl, reduceIte, decide_true, decide_false, Bool.not_true, Bool.not_false, sizeLine_eq, Nat.reduceLeDiff, eqd_int, xFld, Bool.true_eq_false, Bool.false_eq_true, ite_toS, ite_bind, he, hb, hL, ht, oT, gI1, hk, oI, mn]
    | some kk =>
      rw [hc] at hk
      simp only [runF, startS, sSeq, sSet, sRet, sRetN, sIf, sDrop, sAsg, sNext, sNever, sAug, asg_nm, asg_2, asg_3, asg_4, xVar, xC, aNil, aCons, xOp, xCall, xMt, xTup, xLst, xIf, xAnd, xOr, xNot, bOf, bTru, bAnd, bOr, bNot, bYes, gI2, gAdd, gSub, gLt, gLe, gGt, gGe, gIxT, gLen, gMin2, gMax2, gIsN, Rs.bind_ok, Rs.bind_exc, Rs.toS_ok, Rs.toS_exc, List.map_cons, List.map_nil, List.length_cons, List.length_nil, List.replicate, List.cons_append, List.nil_append, List.getElem?_cons_zero, List.getElem?_cons_succ, List.getElem?_nil, List.set_cons_zero, List.set_cons_succ, Nat.reduceAdd, Nat.reduceSub, Nat.reduceEqDiff, if_true, if_false, if_pos rfl, reduceIte, decide_true, decide_false, Bool.not_true, Bool.not_false, sizeLine_eq, Nat.reduceLeDiff, eqd_int, xFld, Bool.true_eq_false, Bool.false_eq_true, ite_toS, ite_bind, he, hb, hL, ht, oT, gI1, hk, oI, mn]
  · cases hq : d.transfer with
    | none =>
      rw [hq] at ht
      cases hc : d.cap with
      | none =>
        rw [hc] at hk
        cases hbb : d.bonus with
        | none =>
          rw [hbb] at hbo
          simp only [runF, startS, sSeq, sSet, sRet, sRetN, sIf, sDrop, sAsg, sNext, sNever, sAug, asg_nm, asg_2, asg_3, asg_4, xVar, xC, aNil, aCons, xOp, xCall, xMt, xTup, xLst, xIf, xAnd, xOr, xNot, bOf, bTru, bAnd, bOr, bNot, bYes, gI2, gAdd, gSub, gLt, gLe, gGt, gGe, gIxT, gLen, gMin2, gMax2, gIsN, Rs.bind_ok, Rs.bind_exc, Rs.toS_ok, Rs.toS_exc, List.map_cons, List.map_nil, List.length_cons, List.length_nil, List.replicate, List.cons_append, List.nil_append, List.getElem?_cons_zero, List.getElem?_cons_succ, List.getElem?_nil, List.set_cons_zero, List.set_cons_succ, Nat.reduceAdd, Nat.reduceSub, Nat.reduceEqDiff, if_true, if_false, if_pos rfl, reduceIte, decide_true, decide_false, Bool.not_true, Bool.not_false, sizeLine_eq, Nat.reduceLeDiff, eqd_int, xFld, Bool.true_eq_false, Bool.false_eq_true, ite_toS, ite_bind, he, hb, hL, ht, oT, gI0, hk, oI, hbo, mn]
        | some bb =>
          rw [hbb] at hbo
          have := i4 bb hbb
          by_cases hz : c.count + 1 = bb
          · have h1 : ¬ c.count + 1 < bb := by omega
            have h2 : ¬ (0 : Int) < 0 := by omega
            dsimp only
            rw [if_pos hz]
            simp only [runF, startS, sSeq, sSet, sRet, sRetN, sIf, sDrop, sAsg, sNext, sNever, sAug, asg_nm, asg_2, asg_3, asg_4, xVar, xC, aNil, aCons, xOp, xCall, xMt, xTup, xLst, xIf, xAnd, xOr, xNot, bOf, bTru, bAnd, bOr, bNot, bYes, gI2, gAdd, gSub, gLt, gLe, gGt, gGe, gIxT, gLen, gMin2, gMax2, gIsN, Rs.bind_ok, Rs.bind_exc, Rs.toS_ok, Rs.toS_exc, List.map_cons, List.map_nil, List.length_cons, List.length_nil, List.replicate, List.cons_append, List.nil_append, List.getElem?_cons_zero, List.getElem?_cons_succ, List.getElem?_nil, List.set_cons_zero, List.set_cons_succ, Nat.reduceAdd, Nat.reduceSub, Nat.reduceEqDiff, if_true, if_false, if_pos rfl, reduceIte, decide_true, decide_false, Bool.not_true, Bool.not_false, sizeLine_eq, Nat.reduceLeDiff, eqd_int, xFld, Bool.true_eq_false, Bool.false_eq_true, ite_toS, ite_bind, he, hb, hL, ht, oT, gI0, hk, oI, hbo, mn, h1, h2]
          · have h1 : c.count + 1 < bb := by omega
            have h2 : (0 : Int) < c.count + 1 := by omega
            dsimp only
            rw [if_neg hz]
            simp only [runF, startS, sSeq, sSet, sRet, sRetN, sIf, sDrop, sAsg, sNext, sNever, sAug, asg_nm, asg_2, asg_3, asg_4, xVar, xC, aNil, aCons, xOp, xCall, xMt, xTup, xLst, xIf, xAnd, xOr, xNot, bOf, bTru, bAnd, bOr, bNot, bYes, gI2, gAdd, gSub, gLt, gLe, gGt, gGe, gIxT, gLen, gMin2, gMax2, gIsN, Rs.bind_ok, Rs.bind_exc, Rs.toS_ok, Rs.toS_exc, List.map_cons, List.map_nil, List.length_cons, List.length_nil, List.replicate, List.cons_append, List.nil_append, List.getElem?_cons_zero, List.getElem?_cons_succ, List.getElem?_nil, List.set_cons_zero, List.set_cons_succ, Nat.reduceAdd, Nat.reduceSub, Nat.reduceEqDiff, if_true, if_false, if_pos rfl, reduceIte, decide_true, decide_false, Bool.not_true, Bool.not_false, sizeLine_eq, Nat.reduceLeDiff, eqd_int, xFld, Bool.true_eq_false, Bool.false_eq_true, ite_toS, ite_bind, he, hb, hL, ht, oT, gI0, hk, oI, hbo, mn, h1, h2]
      | some kk =>
        rw [hc] at hk
        cases hbb : d.bonus with
        | none =>
          rw [hbb] at hbo
          simp only [runF, startS, sSeq, sSet, sRet, sRetN, sIf, sDrop, sAsg, sNext, sNever, sAug, asg_nm, asg_2, asg_3, asg_4, xVar, xC, aNil, aCons, xOp, xCall, xMt, xTup, xLst, xIf, xAnd, xOr, xNot, bOf, bTru, bAnd, bOr, bNot, bYes, gI2, gAdd, gSub, gLt, gLe, gGt, gGe, gIxT, gLen, gMin2, gMax2, gIsN, Rs.bind_ok, Rs.bind_exc, Rs.toS_ok, Rs.toS_exc, List.map_cons, List.map_nil, List.length_cons, List.length_nil, List.replicate, List.cons_append, List.nil_append, List.getElem?_cons_zero, List.getElem?_cons_succ, List.getElem?_nil, List.set_cons_zero, List.set_cons_succ, Nat.reduceAdd, Nat.reduceSub, Nat.reduceEqDiff, if_true, if_false, if_pos rfl, reduceIte, decide_true, decide_false, Bool.not_true, Bool.not_false, sizeLine_eq, Nat.reduceLeDiff, eqd_int, xFld, Bool.true_eq_false, Bool.false_eq_true, ite_toS, ite_bind, he, hb, hL, ht, oT, gI0, hk, oI, hbo, mn]
        | some bb =>
          rw [hbb] at hbo
          have := i4 bb hbb
          by_cases hz : c.count + 1 = bb
          · have h1 : ¬ c.count + 1 < bb := by omega
            have h2 : ¬ (0 : Int) < 0 := by omega
            dsimp only
            rw [if_pos hz]
            simp only [runF, startS, sSeq, sSet, sRet, sRetN, sIf, sDrop, sAsg, sNext, sNever, sAug, asg_nm, asg_2, asg_3, asg_4, xVar, xC, aNil, aCons, xOp, xCall, xMt, xTup, xLst, xIf, xAnd, xOr, xNot, bOf, bTru, bAnd, bOr, bNot, bYes, gI2, gAdd, gSub, gLt, gLe, gGt, gGe, gIxT, gLen, gMin2, gMax2, gIsN, Rs.bind_ok, Rs.bind_exc, Rs.toS_ok, Rs.toS_exc, List.map_cons, List.map_nil, List.length_cons, List.length_nil, List.replicate, List.cons_append, List.nil_append, List.getElem?_cons_zero, List.getElem?_cons_succ, List.getElem?_nil, List.set_cons_zero, List.set_cons_succ, Nat.reduceAdd, Nat.reduceSub, Nat.reduceEqDiff, if_true, if_false, if_pos rfl, reduceIte, decide_true, decide_false, Bool.not_true, Bool.not_false, sizeLine_eq, Nat.reduceLeDiff, eqd_int, xFld, Bool.true_eq_false, Bool.false_eq_true, ite_toS, ite_bind, he, hb, hL, ht, oT, gI0, hk, oI, hbo, mn, h1, h2]
          · have h1 : c.count + 1 < bb := by omega
            have h2 : (0 : Int) < c.count + 1 := by omega
            dsimp only
            rw [if_neg hz]
            simp only [runF, startS, sSeq, sSet, sRet, sRetN, sIf, sDrop, sAsg, sNext, sNever, sAug, asg_nm, asg_2, asg_3, asg_4, xVar, xC, aNil, aCons, xOp, xCall, xMt, xTup, xLst, xIf, xAnd, xOr, xNot, bOf, bTru, bAnd, bOr, bNot, bYes, gI2, gAdd, gSub, gLt, gLe, gGt, gGe, gIxT, gLen, gMin2, gMax2, gIsN, Rs.bind_ok, Rs.bind_exc, Rs.toS_ok, Rs.toS_exc, List.map_cons, List.map_nil, List.length_cons, List.length_nil, List.replicate, List.cons_append, List.nil_append, List.getElem?_cons_zero, List.getElem?_cons_succ, List.getElem?_nil, List.set_cons_zero, List.set_cons_succ, Nat.reduceAdd, Nat.reduceSub, Nat.reduceEqDiff, if_true, if_false, if_pos rfl, reduceIte, decide_true, decide_false, Bool.not_true, Bool.not_false, sizeLine_eq, Nat.reduceLeDiff, eqd_int, xFld, Bool.true_eq_false, Bool.false_eq_true, ite_toS, ite_bind, he, hb, hL, ht, oT, gI0, hk, oI, hbo, mn, h1, h2]
    | some qq =>
      obtain ⟨tt, tp⟩ := qq
      rw [hq] at ht
      cases hc : d.cap with
      | none =>
        rw [hc] at hk
        cases hbb : d.bonus with
        | none =>
          rw [hbb] at hbo
          simp only [runF, startS, sSeq, sSet, sRet, sRetN, sIf, sDrop, sAsg, sNext, sNever, sAug, asg_nm, asg_2, asg_3, asg_4, xVar, xC, aNil, aCons, xOp, xCall, xMt, xTup, xLst, xIf, xAnd, xOr, xNot, bOf, bTru, bAnd, bOr, bNot, bYes, gI2, gAdd, gSub, gLt, gLe, gGt, gGe, gIxT, gLen, gMin2, gMax2, gIsN, Rs.bind_ok, Rs.bind_exc, Rs.toS_ok, Rs.toS_exc, List.map_cons, List.map_nil, List.length_cons, List.length_nil, List.replicate, List.cons_append, List.nil_append, List.getElem?_cons_zero, List.getElem?_cons_succ, List.getElem?_nil, List.set_cons_zero, List.set_cons_succ, Nat.reduceAdd, Nat.reduceSub, Nat.reduceEqDiff, if_true, if_false, if_pos rfl, reduceIte, decide_true, decide_false, Bool.not_true, Bool.not_false, sizeLine_eq, Nat.reduceLeDiff, eqd_int, xFld, Bool.true_eq_false, Bool.false_eq_true, ite_toS, ite_bind, he, hb, hL, ht, oT, gI0, hk, oI, hbo, mn]
        | some bb =>
          rw [hbb] at hbo
          have := i4 bb hbb
          by_cases hz : c.count + 1 = bb
          · have h1 : ¬ c.count + 1 < bb := by omega
            have h2 : ¬ (0 : Int) < 0 := by omega
            dsimp only
            rw [if_pos hz]
            simp only [runF, startS, sSeq, sSet, sRet, sRetN, sIf, sDrop, sAsg, sNext, sNever, sAug, asg_nm, asg_2, asg_3, asg_4, xVar, xC, aNil, aCons, xOp, xCall, xMt, xTup, xLst, xIf, xAnd, xOr, xNot, bOf, bTru, bAnd, bOr, bNot, bYes, gI2, gAdd, gSub, gLt, gLe, gGt, gGe, gIxT, gLen, gMin2, gMax2, gIsN, Rs.bind_ok, Rs.bind_exc, Rs.toS_ok, Rs.toS_exc, List.map_cons, List.map_nil, List.length_cons, List.length_nil, List.replicate, List.cons_append, List.nil_append, List.getElem?_cons_zero, List.getElem?_cons_succ, List.getElem?_nil, List.set_cons_zero, List.set_cons_succ, Nat.reduceAdd, Nat.reduceSub, Nat.reduceEqDiff, if_true, if_false, if_pos rfl, reduceIte, decide_true, decide_false, Bool.not_true, Bool.not_false, sizeLine_eq, Nat.reduceLeDiff, eqd_int, xFld, Bool.true_eq_false, Bool.false_eq_true, ite_toS, ite_bind, he, hb, hL, ht, oT, gI0, hk, oI, hbo, mn, h1, h2]
          · have h1 : c.count + 1 < bb := by omega
            have h2 : (0 : Int) < c.count + 1 := by omega
            dsimp only
            rw [if_neg hz]
            simp only [runF, startS, sSeq, sSet, sRet, sRetN, sIf, sDrop, sAsg, sNext, sNever, sAug, asg_nm, asg_2, asg_3, asg_4, xVar, xC, aNil, aCons, xOp, xCall, xMt, xTup, xLst, xIf, xAnd, xOr, xNot, bOf, bTru, bAnd, bOr, bNot, bYes, gI2, gAdd, gSub, gLt, gLe, gGt, gGe, gIxT, gLen, gMin2, gMax2, gIsN, Rs.bind_ok, Rs.bind_exc, Rs.toS_ok, Rs.toS_exc, List.map_cons, List.map_nil, List.length_cons, List.length_nil, List.replicate, List.cons_append, List.nil_append, List.getElem?_cons_zero, List.getElem?_cons_succ, List.getElem?_nil, List.set_cons_zero, List.set_cons_succ, Nat.reduceAdd, Nat.reduceSub, Nat.reduceEqDiff, if_true, if_false, if_pos rfl, reduceIte, decide_true, decide_false, Bool.not_true, Bool.not_false, sizeLine_eq, Nat.reduceLeDiff, eqd_int, xFld, Bool.true_eq_false, Bool.false_eq_true, ite_toS, ite_bind, he, hb, hL, ht, oT, gI0, hk, oI, hbo, mn, h1, h2]
      | some kk =>
        rw [hc] at hk
        cases hbb : d.bonus with
        | none =>
          rw [hbb] at hbo
          simp only [runF, startS, sSeq, sSet, sRet, sRetN, sIf, sDrop, sAsg, sNext, sNever, sAug, asg_nm, asg_2, asg_3, asg_4, xVar, xC, aNil, aCons, xOp, xCall, xMt, xTup, xLst, xIf, xAnd, xOr, xNot, bOf, bTru, bAnd, bOr, bNot, bYes, gI2, gAdd, gSub, gLt, gLe, gGt, gGe, gIxT, gLen, gMin2, gMax2, gIsN, Rs.bind_ok, Rs.bind_exc, Rs.toS_ok, Rs.toS_exc, List.map_cons, List.map_nil, List.length_cons, List.length_nil, List.replicate, List.cons_append, List.nil_append, List.getElem?_cons_zero, List.getElem?_cons_succ, List.getElem?_nil, List.set_cons_zero, List.set_cons_succ, Nat.reduceAdd, Nat.reduceSub, Nat.reduceEqDiff, if_true, if_false, if_pos rfl, reduceIte, decide_true, decide_false, Bool.not_true, Bool.not_false, sizeLine_eq, Nat.reduceLeDiff, eqd_int, xFld, Bool.true_eq_false, Bool.false_eq_true, ite_toS, ite_bind, he, hb, hL, ht, oT, gI0, hk, oI, hbo, mn]
        | some bb =>
          rw [hbb] at hbo
          have := i4 bb hbb
          by_cases hz : c.count + 1 = bb
          · have h1 : ¬ c.count + 1 < bb := by omega
            have h2 : ¬ (0 : Int) < 0 := by omega
            dsimp only
            rw [if_pos hz]
            simp only [runF, startS, sSeq, sSet, sRet, sRetN, sIf, sDrop, sAsg, sNext, sNever, sAug, asg_nm, asg_2, asg_3, asg_4, xVar, xC, aNil, aCons, xOp, xCall, xMt, xTup, xLst, xIf, xAnd, xOr, xNot, bOf, bTru, bAnd, bOr, bNot, bYes, gI2, gAdd, gSub, gLt, gLe, gGt, gGe, gIxT, gLen, gMin2, gMax2, gIsN, Rs.bind_ok, Rs.bind_exc, Rs.toS_ok, Rs.toS_exc, List.map_cons, List.map_nil, List.length_cons, List.length_nil, List.replicate, List.cons_append, List.nil_append, List.getElem?_cons_zero, List.getElem?_cons_succ, List.getElem?_nil, List.set_cons_zero, List.set_cons_succ, Nat.reduceAdd, Nat.reduceSub, Nat.reduceEqDiff, if_true, if_false, if_pos rfl, reduceIte, decide_true, decide_false, Bool.not_true, Bool.not_false, sizeLine_eq, Nat.reduceLeDiff, eqd_int, xFld, Bool.true_eq_false, Bool.false_eq_true, ite_toS, ite_bind, he, hb, hL, ht, oT, gI0, hk, oI, hbo, mn, h1, h2]
          · have h1 : c.count + 1 < bb := by omega
            have h2 : (0 : Int) < c.count + 1 := by omega
            dsimp only
            rw [if_neg hz]
            simp only [runF, startS, sSeq, sSet, sRet, sRetN, sIf, sDrop, sAsg, sNext, sNever, sAug, asg_nm, asg_2, asg_3, asg_4, xVar, xC, aNil, aCons, xOp, xCall, xMt, xTup, xLst, xIf, xAnd, xOr, xNot, bOf, bTru, bAnd, bOr, bNot, bYes, gI2, gAdd, gSub, gLt, gLe, gGt, gGe, gIxT, gLen, gMin2, gMax2, gIsN, Rs.bind_ok, Rs.bind_exc, Rs.toS_ok, Rs.toS_exc, List.map_cons, List.map_nil, List.length_cons, List.length_nil, List.replicate, List.cons_append, List.nil_append, List.getElem?_cons_zero, List.getElem?_cons_succ, List.getElem?_nil, List.set_cons_zero, List.set_cons_succ, Nat.reduceAdd, Nat.reduceSub, Nat.reduceEqDiff, if_true, if_false, if_pos rfl, reduceIte, decide_true, decide_false, Bool.not_true, Bool.not_false, sizeLine_eq, Nat.reduceLeDiff, eqd_int, xFld, Bool.true_eq_false, Bool.false_eq_true, ite_toS, ite_bind, he, hb, hL, ht, oT, gI0, hk, oI, hbo, mn, h1, h2]
end
end TR

set_option Elab.async false
set_option linter.all false
set_option maxRecDepth 100000
set_option maxHeartbeats 4000000
namespace TR
open PySem PySem.Spec L2
open SX (S)

/-! ### the law's own search -/
theorem run_lstep {h : Hh} {f : Nat} {d : SD} (F : Fare h f d) (W : d.Fit) {c e : Cd} (I : d.Inv c) {x : Nat} {k : Int} (ho : PyData.strOk (ch x) = true) (z : step d.sys c x = some (e, k)) : r_law_step [.ref f, c.pv, .str (ch x)] h = .ok (.tup [e.pv, .int k]) h := by
  unfold step at z
  split at z
  · rename_i hx
    cases z
    rw [hx]
    exact run_ldot F I
  · rename_i hx
    obtain ⟨q, hq, e2⟩ := Option.map_eq_some_iff.mp z
    have e3 := congrArg Prod.fst e2
    have e4 := congrArg Prod.snd e2
    dsimp only at e3 e4
    rw [← e3, ← e4]
    exact run_lride F W I hx ho hq
def bL : Sx := sSeq (sSet 6 (xOp gIxT (xCall r_law_step (aCons (xVar 0) (aCons (xOp gIxL (xVar 2) (xVar 4)) (aCons (xVar 5) (aNil))))) (xC (.int 0)))) (sIf (bOf (xOp (gNIn true) (xVar 6) (xVar 3))) (sSeq (sNPutR (xVar 3) (xVar 6) (xC (.bl true))) (sDrop (xBM tList gAppend (xVar 2) (aCons (xVar 6) (aNil))))) (sNext))
def cL : Eb := bAnd (bOf (xOp gLt (xVar 4) (xCall gLen (aCons (xVar 2) (aNil))))) (bOf (xOp gLe (xCall gLen (aCons (xVar 2) (aNil))) (xVar 1)))
def wL : Sx := sSeq (sFor (iStrR (xCall r_law_letters (aCons (xVar 0) (aNil)))) (.nm 5) bL) (sSet 4 (xOp gAdd (xVar 4) (xC (.int 1))))
def c4x : Ex := xTup (aCons (xC (.int 0)) (aCons (xC (.int 0)) (aCons (xC (.int 0)) (aCons (xC (.int 0)) (aNil)))))
theorem lstates_def : r_law_states = runF 2 7 (sSeq (sPar3 2 3 4 (aCons (xLstI (aCons c4x (aNil))) (aCons (xDisp1 c4x (xC (.bl true))) (aCons (xC (.int 0)) (aNil))))) (sSeq (whlL cL wL 1000000) (sRet (xFrzA (xVar 2))))) := rfl
section
variable {d : SD} {f n m : Nat}
structure LS (h : Hh) (f n m : Nat) (d : SD) (l : List Cd) : Prop where
  fare : Fare h f d
  lst : h[n]? = some (.lst (l.map Cd.pv))
  dcn : h[m]? = some (.dcn (kD l))
  nf : n ≠ f
  mf : m ≠ f
  nm : n ≠ m
theorem LS.put {h : Hh} {l : List Cd} (r : LS h f n m d l) (g : List Cd) : LS (put2 h n m g) f n m d g := by
  have h1 := (List.getElem?_eq_some_iff.mp r.lst).1
  have h2 := (List.getElem?_eq_some_iff.mp r.dcn).1
  refine ⟨?_, ?_, ?_, r.nf, r.mf, r.nm⟩
  · unfold Fare put2
    rw [List.getElem?_set_ne r.mf, List.getElem?_set_ne r.nf]
    exact r.fare
  · unfold put2
    rw [List.getElem?_set_ne r.nm.symm, List.getElem?_set_self h1]
  · unfold put2
    rw [List.getElem?_set_self (by rw [List.length_set]; exact h2)]
theorem LS.put_same {h : Hh} {l : List Cd} (r : LS h f n m d l) : put2 h n m l = h := by
  unfold put2
  rw [set_same r.lst, set_same r.dcn]
theorem turn_L {h : Hh} {l : List Cd} (r : LS h f n m d l) (W : d.Fit) {k x : Nat} {c e : Cd} {j : Int} (hk : l[k]? = some c) (hc : d.Inv c) (ho : PyData.strOk (ch x) = true) (z : step d.sys c x = some (e, j)) (hz : l.length < sizeLine) (a1 a6 : Option PV) :
    bL [some (.ref f), a1, some (.ref n), some (.ref m), some (.int k), some (.str (ch x)), a6] h = .nx [some (.ref f), a1, some (.ref n), some (.ref m), some (.int k), some (.str (ch x)), some e.pv] (put2 h n m (if e ∈ l then l else l ++ [e])) := by
  have hs := run_lstep r.fare W hc ho z
  have hx : gIxL (.ref n) (.int k) h = .ok c.pv h := by
    have hk2 : (l.map Cd.pv)[k]? = some c.pv := by rw [List.getElem?_map, hk]; rfl
    unfold gIxL asL
    dsimp only
    rw [r.lst]
    dsimp only
    rw [atI_nat hk2]
  have hq : gNIn true e.pv (.ref m) h = .ok (.bl (!decide (e ∈ l))) h := by
    unfold gNIn asN
    dsimp only
    rw [r.dcn, nkey_pv]
    dsimp only
    rw [nlook_kD]
    rfl
  unfold bL
  by_cases hd : e ∈ l
  · rw [if_pos hd, r.put_same]
    rw [decide_eq_true hd] at hq
    simp only [runF, startS, sSeq, sSet, sRet, sRetN, sIf, sDrop, sAsg, sNext, sNever, sAug, asg_nm, asg_2, asg_3, asg_4, xVar, xC, aNil, aCons, xOp, xCall, xMt, xTup, xLst, xIf, xAnd, xOr, xNot, bOf, bTru, bAnd, bOr, bNot, bYes, gI2, gAdd, gSub, gLt, gLe, gGt, gGe, gIxT, gLen, gMin2, gMax2, gIsN, Rs.bind_ok, Rs.bind_exc, Rs.toS_ok, Rs.toS_exc, List.map_cons, List.map_nil, List.length_cons, List.length_nil, List.replicate, List.cons_append, List.nil_append, List.getElem?_cons_zero, List.getElem?_cons_succ, List.getElem?_nil, List.set_cons_zero, List.set_cons_succ, Nat.reduceAdd, Nat.reduceSub, Nat.reduceEqDiff, if_true, if_false, if_pos rfl, reduceIte, decide_true, decide_false, Bool.not_true, Bool.not_false, sizeLine_eq, Nat.reduceLeDiff, eqd_int, xFld, Bool.true_eq_false, Bool.false_eq_true, ite_toS, ite_bind, hx, hs, gI0, hq]
  · rw [if_neg hd]
    rw [decide_eq_false hd] at hq
    have h1 : sNPutR (xVar 3) (xVar 6) (xC (.bl true)) [some (.ref f), a1, some (.ref n), some (.ref m), some (.int k), some (.str (ch x)), some e.pv] h
        = .nx [some (.ref f), a1, some (.ref n), some (.ref m), some (.int k), some (.str (ch x)), some e.pv] (h.set m (.dcn (kD (l ++ [e])))) := by
      unfold sNPutR
      simp only [runF, startS, sSeq, sSet, sRet, sRetN, sIf, sDrop, sAsg, sNext, sNever, sAug, asg_nm, asg_2, asg_3, asg_4, xVar, xC, aNil, aCons, xOp, xCall, xMt, xTup, xLst, xIf, xAnd, xOr, xNot, bOf, bTru, bAnd, bOr, bNot, bYes, gI2, gAdd, gSub, gLt, gLe, gGt, gGe, gIxT, gLen, gMin2, gMax2, gIsN, Rs.bind_ok, Rs.bind_exc, Rs.toS_ok, Rs.toS_exc, List.map_cons, List.map_nil, List.length_cons, List.length_nil, List.replicate, List.cons_append, List.nil_append, List.getElem?_cons_zero, List.getElem?_cons_succ, List.getElem?_nil, List.set_cons_zero, List.set_cons_succ, Nat.reduceAdd, Nat.reduceSub, Nat.reduceEqDiff, if_true, if_false, if_pos rfl, reduceIte, decide_true, decide_false, Bool.not_true, Bool.not_false, sizeLine_eq, Nat.reduceLeDiff, eqd_int, xFld, Bool.true_eq_false, Bool.false_eq_true, ite_toS, ite_bind, nkey_pv, r.dcn, nput_kD hd]
      rw [if_pos (by unfold kD; rw [List.length_map]; rw [sizeLine_eq] at hz; omega)]
    have hl : (h.set m (.dcn (kD (l ++ [e]))))[n]? = some (.lst (l.map Cd.pv)) := by rw [List.getElem?_set_ne r.nm.symm, r.lst]
    have ht : tList (.ref n) (h.set m (.dcn (kD (l ++ [e])))) = true := by
      show (asL (.ref n) _).isSome = true
      unfold asL
      dsimp only
      rw [hl]
      rfl
    have hg : gAppend (.ref n) [e.pv] (h.set m (.dcn (kD (l ++ [e])))) = .ok .non (put2 h n m (l ++ [e])) := by
      unfold gAppend
      dsimp only
      rw [hl]
      dsimp only
      rw [if_pos (by rw [List.length_map]; exact hz)]
      unfold put2
      rw [List.set_comm _ _ r.nm, List.map_append]
      rfl
    simp only [runF, startS, sSeq, sSet, sRet, sRetN, sIf, sDrop, sAsg, sNext, sNever, sAug, asg_nm, asg_2, asg_3, asg_4, xVar, xC, aNil, aCons, xOp, xCall, xMt, xTup, xLst, xIf, xAnd, xOr, xNot, bOf, bTru, bAnd, bOr, bNot, bYes, gI2, gAdd, gSub, gLt, gLe, gGt, gGe, gIxT, gLen, gMin2, gMax2, gIsN, Rs.bind_ok, Rs.bind_exc, Rs.toS_ok, Rs.toS_exc, List.map_cons, List.map_nil, List.length_cons, List.length_nil, List.replicate, List.cons_append, List.nil_append, List.getElem?_cons_zero, List.getElem?_cons_succ, List.getElem?_nil, List.set_cons_zero, List.set_cons_succ, Nat.reduceAdd, Nat.reduceSub, Nat.reduceEqDiff, if_true, if_false, if_pos rfl, reduceIte, decide_true, decide_false, Bool.not_true, Bool.not_false, sizeLine_eq, Nat.reduceLeDiff, eqd_int, xFld, Bool.true_eq_false, Bool.false_eq_true, ite_toS, ite_bind, hx, hs, gI0, hq, h1, xBM, ht, hg]
theorem letters_L (W : d.Fit) : ∀ (ls : List Nat) {h : Hh} {l g : List Cd} (r : LS h f n m d l) {k : Nat} {c : Cd} (hk : l[k]? = some c) (hc : d.Inv c) (ho : ∀ x ∈ ls, PyData.strOk (ch x) = true) (e : addL d.sys c ls l = some g) (hz : l.length + ls.length < sizeLine) (a1 a5 a6 : Option PV),
    ∃ b5 b6, forL (.nm 5) bL (ls.map fun x => .str (ch x)) [some (.ref f), a1, some (.ref n), some (.ref m), some (.int k), a5, a6] h = .nx [some (.ref f), a1, some (.ref n), some (.ref m), some (.int k), b5, b6] (put2 h n m g)
  | [], h, l, g, r, k, c, hk, hc, ho, e, hz, a1, a5, a6 => by
    cases e
    exact ⟨a5, a6, by rw [r.put_same]; rfl⟩
  | x :: ls, h, l, g, r, k, c, hk, hc, ho, e, hz, a1, a5, a6 => by
    unfold addL at e
    split at e
    · cases e
    · rename_i y j e1
      simp only [List.length_cons] at hz
      have t := turn_L r W hk hc (ho x List.mem_cons_self) e1 (by omega) a1 a6
      have r2 := r.put (if y ∈ l then l else l ++ [y])
      have hk2 : (if y ∈ l then l else l ++ [y])[k]? = some c := by
        split
        · exact hk
        · rw [List.getElem?_append_left (List.getElem?_eq_some_iff.mp hk).1, hk]
      have hz2 : (if y ∈ l then l else l ++ [y]).length + ls.length < sizeLine := by
        split
        · omega
        · simp only [List.length_append, List.length_cons, List.length_nil]; omega
      obtain ⟨b5, b6, ih⟩ := letters_L W ls r2 hk2 hc (fun y hy => ho y (List.mem_cons_of_mem _ hy)) e hz2 a1 (some (.str (ch x))) (some y.pv)
      refine ⟨b5, b6, ?_⟩
      rw [List.map_cons, forL, asg_nm]
      simp only [Rs.bind_ok, Rs.bind_exc, Rs.toS_ok, Rs.toS_exc, List.map_cons, List.map_nil, List.length_cons, List.length_nil, List.replicate, List.cons_append, List.nil_append, List.getElem?_cons_zero, List.getElem?_cons_succ, List.getElem?_nil, List.set_cons_zero, List.set_cons_succ, Nat.reduceAdd, Nat.reduceSub, Nat.reduceEqDiff, if_true, if_false, if_pos rfl, reduceIte, t]
      rw [ih, put_put r.nm]
theorem addL_inv {c : Cd} (hb : ∀ b, d.bonus = some b → 2 ≤ b) (hc : d.Inv c) : ∀ {ls : List Nat} {l g : List Cd}, (∀ e ∈ l, d.Inv e) → addL d.sys c ls l = some g → (∀ e ∈ g, d.Inv e) ∧ g.length ≤ l.length + ls.length
  | [], l, g, hl, e => by
    cases e
    exact ⟨hl, Nat.le_refl _⟩
  | x :: ls, l, g, hl, e => by
    unfold addL at e
    split at e
    · cases e
    · rename_i y j e1
      have hy := inv_step hc hb e1
      obtain ⟨h1, h2⟩ := addL_inv hb hc (ls := ls) (l := if y ∈ l then l else l ++ [y]) (by
        split
        · exact hl
        · intro z hz
          rcases List.mem_append.mp hz with hz | hz
          · exact hl z hz
          · rw [List.mem_singleton.mp hz]; exact hy) e
      refine ⟨h1, Nat.le_trans h2 ?_⟩
      split
      · simp only [List.length_cons]; omega
      · simp only [List.length_append, List.length_cons, List.length_nil]; omega
theorem loop_L (W : d.Fit) (hb2 : ∀ b, d.bonus = some b → 2 ≤ b) (hb : Int) (hbz : hb + (d.sys.lets.length : Nat) < 1000000) : ∀ (q N : Nat) {h : Hh} {l g : List Cd} (r : LS h f n m d l) {k : Nat} (hl : ∀ e ∈ l, d.Inv e) (e : reach d.sys hb q k l = some g) (hN : q ≤ N) (a5 a6 : Option PV),
    ∃ k' b5 b6, whlL cL wL N [some (.ref f), some (.int hb), some (.ref n), some (.ref m), some (.int (k : Nat)), a5, a6] h = .nx [some (.ref f), some (.int hb), some (.ref n), some (.ref m), some (.int k'), b5, b6] (put2 h n m g)
  | 0, N, h, l, g, r, k, hl, e, hN, a5, a6 => by cases e
  | q + 1, 0, h, l, g, r, k, hl, e, hN, a5, a6 => absurd hN (by omega)
  | q + 1, N + 1, h, l, g, r, k, hl, e, hN, a5, a6 => by
    have ha : asL (.ref n) h = some (l.map Cd.pv) := by
      unfold asL
      dsimp only
      rw [r.lst]
    unfold reach at e
    have hc : cL [some (.ref f), some (.int hb), some (.ref n), some (.ref m), some (.int (k : Nat)), a5, a6] h = .ok (decide ((k : Int) < (l.length : Nat) ∧ (l.length : Int) ≤ hb)) h := by
      unfold cL
      by_cases h1 : (k : Int) < (l.length : Nat)
      · by_cases h2 : (l.length : Int) ≤ hb
        · simp only [runF, startS, sSeq, sSet, sRet, sRetN, sIf, sDrop, sAsg, sNext, sNever, sAug, asg_nm, asg_2, asg_3, asg_4, xVar, xC, aNil, aCons, xOp, xCall, xMt, xTup, xLst, xIf, xAnd, xOr, xNot, bOf, bTru, bAnd, bOr, bNot, bYes, gI2, gAdd, gSub, gLt, gLe, gGt, gGe, gIxT, gLen, gMin2, gMax2, gIsN, Rs.bind_ok, Rs.bind_exc, Rs.toS_ok, Rs.toS_exc, List.map_cons, List.map_nil, List.length_cons, List.length_nil, List.replicate, List.cons_append, List.nil_append, List.getElem?_cons_zero, List.getElem?_cons_succ, List.getElem?_nil, List.set_cons_zero, List.set_cons_succ, Nat.reduceAdd, Nat.reduceSub, Nat.reduceEqDiff, if_true, if_false, if_pos rfl, reduceIte, decide_true, decide_false, Bool.not_true, Bool.not_false, sizeLine_eq, Nat.reduceLeDiff, eqd_int, xFld, Bool.true_eq_false, Bool.false_eq_true, ite_toS, ite_bind, ha, List.length_map, h1, h2, and_self]
        · simp only [runF, startS, sSeq, sSet, sRet, sRetN, sIf, sDrop, sAsg, sNext, sNever, sAug, asg_nm, asg_2, asg_3, asg_4, xVar, xC, aNil, aCons, xOp, xCall, xMt, xTup, xLst, xIf, xAnd, xOr, xNot, bOf, bTru, bAnd, bOr, bNot, bYes, gI2, gAdd, gSub, gLt, gLe, gGt, gGe, gIxT, gLen, gMin2, gMax2, gIsN, Rs.bind_ok, Rs.bind_exc, Rs.toS_ok, Rs.toS_exc, List.map_cons, List.map_nil, List.length_cons, List.length_nil, List.replicate, List.cons_append, List.nil_append, List.getElem?_cons_zero, List.getElem?_cons_succ, List.getElem?_nil, List.set_cons_zero, List.set_cons_succ, Nat.reduceAdd, Nat.reduceSub, Nat.reduceEqDiff, if_true, if_false, if_pos rfl, reduceIte, decide_true, decide_false, Bool.not_true, Bool.not_false, sizeLine_eq, Nat.reduceLeDiff, eqd_int, xFld, Bool.true_eq_false, Bool.false_eq_true, ite_toS, ite_bind, ha, List.length_map, h1, h2, and_false]
      · simp only [runF, startS, sSeq, sSet, sRet, sRetN, sIf, sDrop, sAsg, sNext, sNever, sAug, asg_nm, asg_2, asg_3, asg_4, xVar, xC, aNil, aCons, xOp, xCall, xMt, xTup, xLst, xIf, xAnd, xOr, xNot, bOf, bTru, bAnd, bOr, bNot, bYes, gI2, gAdd, gSub, gLt, gLe, gGt, gGe, gIxT, gLen, gMin2, gMax2, gIsN, Rs.bind_ok, Rs.bind_exc, Rs.toS_ok, Rs.toS_exc, List.map_cons, List.map_nil, List.length_cons, List.length_nil, List.replicate, List.cons_append, List.nil_append, List.getElem?_cons_zero, List.getElem?_cons_succ, List.getElem?_nil, List.set_cons_zero, List.set_cons_succ, Nat.reduceAdd, Nat.reduceSub, Nat.reduceEqDiff, if_true, if_false, if_pos rfl, reduceIte, decide_true, decide_false, Bool.not_true, Bool.not_false, sizeLine_eq, Nat.reduceLeDiff, eqd_int, xFld, Bool.true_eq_false, Bool.false_eq_true, ite_toS, ite_bind, ha, List.length_map, h1, false_and]
    rw [whlL, hc, Rs.toS_ok]
    split at e
    · rename_i hcond
      rw [if_pos (decide_eq_true hcond)]
      split at e
      · cases e
      · rename_i c hk
        split at e
        · cases e
        · rename_i l2 e1
          have hci := hl c (List.mem_of_getElem? hk)
          obtain ⟨w1, w2⟩ := addL_inv hb2 hci hl e1
          have hz : l.length + d.sys.lets.length < sizeLine := by rw [sizeLine_eq]; omega
          obtain ⟨b5, b6, t⟩ := letters_L W d.sys.lets r hk hci (SD.lets_ok W) e1 hz (some (.int hb)) a5 a6
          have hle := run_lletters r.fare W
          have hw : wL [some (.ref f), some (.int hb), some (.ref n), some (.ref m), some (.int (k : Nat)), a5, a6] h = .nx [some (.ref f), some (.int hb), some (.ref n), some (.ref m), some (.int ((k + 1 : Nat) : Int)), b5, b6] (put2 h n m l2) := by
            have hch : chars ⟨d.sys.lets.toArray⟩ = d.sys.lets.map fun x => .str (ch x) := chars_S d.sys.lets
            unfold wL
            simp only [runF, startS, sSeq, sSet, sRet, sRetN, sIf, sDrop, sAsg, sNext, sNever, sAug, asg_nm, asg_2, asg_3, asg_4, xVar, xC, aNil, aCons, xOp, xCall, xMt, xTup, xLst, xIf, xAnd, xOr, xNot, bOf, bTru, bAnd, bOr, bNot, bYes, gI2, gAdd, gSub, gLt, gLe, gGt, gGe, gIxT, gLen, gMin2, gMax2, gIsN, Rs.bind_ok, Rs.bind_exc, Rs.toS_ok, Rs.toS_exc, List.map_cons, List.map_nil, List.length_cons, List.length_nil, List.replicate, List.cons_append, List.nil_append, List.getElem?_cons_zero, List.getElem?_cons_succ, List.getElem?_nil, List.set_cons_zero, List.set_cons_succ, Nat.reduceAdd, Nat.reduceSub, Nat.reduceEqDiff, if_true, if_false, if_pos rfl, reduceIte, decide_true, decide_false, Bool.not_true, Bool.not_false, sizeLine_eq, Nat.reduceLeDiff, eqd_int, xFld, Bool.true_eq_false, Bool.false_eq_true, ite_toS, ite_bind, sFor, iStrR, hle, hch, t]
            rfl
          rw [hw]
          obtain ⟨k', c5, c6, ih⟩ := loop_L W hb2 hb hbz q N (r.put l2) w1 e (by omega) b5 b6
          exact ⟨k', c5, c6, by show whlL cL wL N _ _ = _; rw [ih, put_put r.nm]⟩
    · rename_i hcond
      cases e
      rw [if_neg (by rw [decide_eq_false hcond]; exact Bool.false_ne_true), r.put_same]
      exact ⟨k, a5, a6, rfl⟩
theorem run_lstates {h : Hh} (F : Fare h f d) (W : d.Fit) (hs : 1 ≤ d.slots) (hb2 : ∀ b, d.bonus = some b → 2 ≤ b) {g : List Cd} {q : Nat} (b : Int) (hbz : b + (d.sys.lets.length : Nat) < 1000000) (hr : reach d.sys b q 0 [newC] = some g) (hq : q ≤ 1000000) :
    r_law_states [.ref f, .int b] h = .ok (.lst (g.map Cd.pv)) (h ++ [.gone, .dcn (kD g)]) := by
  have hl := (List.getElem?_eq_some_iff.mp F).1
  have r : LS (h ++ [.lst [newC.pv], .dcn (kD [newC])]) f h.length (h.length + 1) d [newC] := by
    refine ⟨get_app F _, ?_, ?_, by omega, by omega, by omega⟩
    · rw [List.getElem?_append_right (Nat.le_refl _)]; simp
    · rw [List.getElem?_append_right (by omega)]; simp
  obtain ⟨k', b5, b6, w⟩ := loop_L W hb2 b hbz q 1000000 r (k := 0) (fun e he => by rw [List.mem_singleton.mp he]; exact inv_new hs hb2) hr hq none none
  have hp : put2 (h ++ [.lst [newC.pv], .dcn (kD [newC])]) h.length (h.length + 1) g = h ++ [.lst (g.map Cd.pv), .dcn (kD g)] := by
    unfold put2
    rw [List.set_append_right _ _ (by omega), List.set_append_right _ _ (by omega)]
    simp
  rw [hp] at w
  change whlL cL wL 1000000 [some (.ref f), some (.int b), some (.ref h.length), some (.ref (h.length + 1)), some (.int 0), none, none] _ = _ at w
  have hf : frzV (.ref h.length) (h ++ [.lst (g.map Cd.pv), .dcn (kD g)]) = some (.lst (g.map Cd.pv), h ++ [.gone, .dcn (kD g)]) := by
    unfold frzV
    simp [frzO]
  have hc4 : ∀ (st : Sl) (hh : Hh), c4x st hh = .ok newC.pv hh := fun st hh => by
    unfold c4x
    simp only [runF, startS, sSeq, sSet, sRet, sRetN, sIf, sDrop, sAsg, sNext, sNever, sAug, asg_nm, asg_2, asg_3, asg_4, xVar, xC, aNil, aCons, xOp, xCall, xMt, xTup, xLst, xIf, xAnd, xOr, xNot, bOf, bTru, bAnd, bOr, bNot, bYes, gI2, gAdd, gSub, gLt, gLe, gGt, gGe, gIxT, gLen, gMin2, gMax2, gIsN, Rs.bind_ok, Rs.bind_exc, Rs.toS_ok, Rs.toS_exc, List.map_cons, List.map_nil, List.length_cons, List.length_nil, List.replicate, List.cons_append, List.nil_append, List.getElem?_cons_zero, List.getElem?_cons_succ, List.getElem?_nil, List.set_cons_zero, List.set_cons_succ, Nat.reduceAdd, Nat.reduceSub, Nat.reduceEqDiff, if_true, if_false, if_pos rfl, reduceIte, decide_true, decide_false, Bool.not_true, Bool.not_false, sizeLine_eq, Nat.reduceLeDiff, eqd_int, xFld, Bool.true_eq_false, Bool.false_eq_true, ite_toS, ite_bind]
    rfl
  have hd : ∀ (st : Sl) (hh : Hh), xDisp1 c4x (xC (.bl true)) st hh = .ok (.ref hh.length) (hh ++ [.dcn (kD [newC])]) := fun st hh => by
    unfold xDisp1
    rw [hc4]
    rfl
  have hw2 : (h ++ [Ob.lst [newC.pv]]).length = h.length + 1 := by simp
  have hw3 : (h ++ [Ob.lst [newC.pv]]) ++ [Ob.dcn (kD [newC])] = h ++ [.lst [newC.pv], .dcn (kD [newC])] := by simp
  have hp3 : sPar3 2 3 4 (aCons (xLstI (aCons c4x (aNil))) (aCons (xDisp1 c4x (xC (.bl true))) (aCons (xC (.int 0)) (aNil)))) [some (.ref f), some (.int b), none, none, none, none, none] h = .nx [some (.ref f), some (.int b), some (.ref h.length), some (.ref (h.length + 1)), some (.int 0), none, none] (h ++ [.lst [newC.pv], .dcn (kD [newC])]) := by
    have hl1 : xLstI (aCons c4x (aNil)) [some (.ref f), some (.int b), none, none, none, none, none] h = .ok (.ref h.length) (h ++ [.lst [newC.pv]]) := by
      unfold xLstI aCons aNil
      rw [hc4, Rs.bind_ok, Rs.bind_ok, Rs.bind_ok, if_pos (by rw [sizeLine_eq]; show 1 ≤ 16777216; omega)]
    unfold sPar3
    simp only [Rs.bind_ok, Rs.bind_exc, Rs.toS_ok, Rs.toS_exc, List.map_cons, List.map_nil, List.length_cons, List.length_nil, List.replicate, List.cons_append, List.nil_append, List.getElem?_cons_zero, List.getElem?_cons_succ, List.getElem?_nil, List.set_cons_zero, List.set_cons_succ, Nat.reduceAdd, Nat.reduceSub, Nat.reduceEqDiff, if_true, if_false, if_pos rfl, reduceIte, aCons, hl1, hd, xC, aNil, hw2, hw3]
  rw [lstates_def]
  simp only [Rs.bind_ok, Rs.bind_exc, Rs.toS_ok, Rs.toS_exc, List.map_cons, List.map_nil, List.length_cons, List.length_nil, List.replicate, List.cons_append, List.nil_append, List.getElem?_cons_zero, List.getElem?_cons_succ, List.getElem?_nil, List.set_cons_zero, List.set_cons_succ, Nat.reduceAdd, Nat.reduceSub, Nat.reduceEqDiff, if_true, if_false, if_pos rfl, reduceIte, runF, startS, sSeq, hp3, w, sRet, xFrzA, xVar, hf]
end
end TR

set_option Elab.async false
set_option linter.all false
set_option maxRecDepth 100000
set_option maxHeartbeats 4000000
namespace TR
open PySem PySem.Spec L2
open SX (S)

/-! ### the law's own text -/
def sP (l : List Nat) : PV := .str (S l)
def rowsH (h0 : Hh) (ls : List (List Nat)) : Hh := h0 ++ [.lst (ls.map sP)]
theorem rowsH_at (h0 : Hh) (ls : List (List Nat)) : (rowsH h0 ls)[h0.length]? = some (.lst (ls.map sP)) := by unfold rowsH; simp
theorem app_ok (h0 : Hh) (ls : List (List Nat)) (l : List Nat) (hz : ls.length ≤ 1000) : gAppend (.ref h0.length) [sP l] (rowsH h0 ls) = .ok .non (rowsH h0 (ls ++ [l])) := by
  unfold gAppend
  dsimp only
  rw [rowsH_at]
  dsimp only
  rw [if_pos (by rw [List.length_map, sizeLine_eq]; omega)]
  unfold rowsH
  simp
theorem tl_ok (h0 : Hh) (ls : List (List Nat)) : tList (.ref h0.length) (rowsH h0 ls) = true := by
  show (asL (.ref h0.length) (rowsH h0 ls)).isSome = true
  unfold asL
  dsimp only
  rw [rowsH_at]
  rfl
/-- rows.append(e) -/
theorem push_ok {i : Nat} {fe : Ex} {st : Sl} {h0 : Hh} {ls : List (List Nat)} {l : List Nat} (hi : st[i]? = some (some (.ref h0.length))) (he : fe st (rowsH h0 ls) = .ok (sP l) (rowsH h0 ls)) (hz : ls.length ≤ 1000) :
    sDrop (xBM tList gAppend (xVar i) (aCons fe aNil)) st (rowsH h0 ls) = .nx st (rowsH h0 (ls ++ [l])) := by
  simp only [Rs.bind_ok, Rs.bind_exc, Rs.toS_ok, Rs.toS_exc, List.map_cons, List.map_nil, List.length_cons, List.length_nil, List.replicate, List.cons_append, List.nil_append, List.getElem?_cons_zero, List.getElem?_cons_succ, List.getElem?_nil, List.set_cons_zero, List.set_cons_succ, Nat.reduceAdd, Nat.reduceSub, Nat.reduceEqDiff, if_true, if_false, if_pos rfl, reduceIte, sDrop, xBM, xVar, hi, tl_ok, aCons, he, aNil, app_ok h0 ls l hz]
theorem cats_S {a b : List Nat} (hz : a.length + b.length ≤ 1000000) (h : Hh) : gCatS (sP a) (sP b) h = .ok (sP (a ++ b)) h := by
  unfold gCatS sP
  dsimp only
  rw [SX.S_len, SX.S_len, if_pos (by rw [sizeLine_eq]; omega), SX.S_cat]
def nL (k : Int) : List Nat := (nS k).cps.toList
theorem nL_S (k : Int) : sP (nL k) = .str (nS k) := congrArg PV.str (SX.S_tl _)
theorem nL_len {k : Int} (h : Sm k) : (nL k).length ≤ 2 := (nS_fine' h).2.2
theorem strN {k : Int} (h : Sm k) (hh : Hh) : gStrI [.int k] hh = .ok (sP (nL k)) hh := by rw [nL_S]; exact strI h hh
theorem lits : ("slots " : Str) = S (("slots" : Str).cps.toList ++ [32]) ∧ ("peak " : Str) = S (("peak" : Str).cps.toList ++ [32]) ∧ ("ride " : Str) = S (("ride" : Str).cps.toList ++ [32]) ∧ ("transfer " : Str) = S (("transfer" : Str).cps.toList ++ [32]) ∧ (" " : Str) = S [32] ∧
    ("cap" : Str) = S ("cap" : Str).cps.toList ∧ ("bonus" : Str) = S ("bonus" : Str).cps.toList ∧ ("slots" : Str).cps.toList.length ≤ 8 ∧ ("peak" : Str).cps.toList.length ≤ 8 ∧ ("ride" : Str).cps.toList.length ≤ 8 ∧ ("transfer" : Str).cps.toList.length ≤ 8 ∧ ("cap" : Str).cps.toList.length ≤ 8 ∧ ("bonus" : Str).cps.toList.length ≤ 8 := by decide +kernel
theorem line1 (w : Str) (k : Int) : lineL (w, [.int k]) = (w.cps.toList ++ [32]) ++ nL k := by
  show w.cps.toList ++ ([32] ++ nL k) = _
  rw [List.append_assoc]
theorem line2 (w : Str) (j k : Int) : lineL (w, [.int j, .int k]) = (((w.cps.toList ++ [32]) ++ nL j) ++ [32]) ++ nL k := by
  show w.cps.toList ++ ([32] ++ (nL j ++ ([32] ++ nL k))) = _
  simp only [List.append_assoc]
theorem line3 (q : Nat × Int × Int) : lineL (rRide q) = (((((("ride" : Str).cps.toList ++ [32]) ++ [q.1]) ++ [32]) ++ nL q.2.1) ++ [32]) ++ nL q.2.2 := by
  show ("ride" : Str).cps.toList ++ ([32] ++ ([q.1] ++ ([32] ++ (nL q.2.1 ++ ([32] ++ nL q.2.2))))) = _
  simp only [List.append_assoc]
theorem linep (p : List Int) (h : p ≠ []) : lineL ("peak", p.map .int) = (("peak" : Str).cps.toList ++ [32]) ++ TL.joinL [32] (p.map nL) := by
  cases p with
  | nil => exact absurd rfl h
  | cons a r =>
    have e : wordsR (("peak", ((a :: r).map .int)) : Row) = ("peak" : Str).cps.toList :: (a :: r).map nL := by
      unfold wordsR
      rw [List.map_map]
      rfl
    unfold lineL
    rw [e]
    show ("peak" : Str).cps.toList ++ ([32] ++ TL.joinL [32] ((a :: r).map nL)) = _
    rw [List.append_assoc]
def t1 : Ex := xOp gCatS (xC (.str "slots ")) (xCall gStrI (aCons (xOp gDGet (xVar 0) (xC (.str "slots"))) (aNil)))
def t2c : Eb := bOf (xOp (gEqD true) (xOp gDGet (xVar 0) (xC (.str "peak"))) (xLst (aNil)))
def t2 : Ex := xOp gCatS (xC (.str "peak ")) (xBM tStr gJoin (xC (.str " ")) (aCons (xLc (iLst (xOp gDGet (xVar 0) (xC (.str "peak")))) (.nm 6) (bYes) (xCall gStrI (aCons (xVar 6) (aNil))) [6]) (aNil)))
def t3 : Ex := xOp gCatS (xOp gCatS (xOp gCatS (xOp gCatS (xOp gCatS (xC (.str "ride ")) (xVar 3)) (xC (.str " "))) (xCall gStrI (aCons (xVar 4) (aNil)))) (xC (.str " "))) (xCall gStrI (aCons (xVar 5) (aNil)))
def t4c : Eb := bOf (xOp (gIsN true) (xOp gDGet (xVar 0) (xC (.str "transfer"))) (xC .non))
def t4 : Ex := xOp gCatS (xOp gCatS (xOp gCatS (xC (.str "transfer ")) (xCall gStrI (aCons (xOp gIxT (xOp gDGet (xVar 0) (xC (.str "transfer"))) (xC (.int 0))) (aNil)))) (xC (.str " "))) (xCall gStrI (aCons (xOp gIxT (xOp gDGet (xVar 0) (xC (.str "transfer"))) (xC (.int 1))) (aNil)))
def t5c : Eb := bOf (xOp (gIsN true) (xOp gDGet (xVar 0) (xVar 2)) (xC .non))
def t5 : Ex := xOp gCatS (xOp gCatS (xVar 2) (xC (.str " "))) (xCall gStrI (aCons (xOp gDGet (xVar 0) (xVar 2)) (aNil)))
def b5 : Sx := sIf t5c (sDrop (xBM tList gAppend (xVar 1) (aCons t5 aNil))) sNext
def b3 : Sx := sDrop (xBM tList gAppend (xVar 1) (aCons t3 aNil))
theorem ltext_def : r_law_text = runF 1 7 (sSeq (sSet 1 (xLstI (aCons t1 (aNil)))) (sSeq (sIf t2c (sDrop (xBM tList gAppend (xVar 1) (aCons t2 (aNil)))) (sNext)) (sSeq (sFor (iLst (xOp gDGet (xVar 0) (xC (.str "kinds")))) (.tp [.nm 3, .nm 4, .nm 5]) b3) (sSeq (sIf t4c (sDrop (xBM tList gAppend (xVar 1) (aCons t4 (aNil)))) (sNext)) (sSeq (sFor (iLst (xLst (aCons (xC (.str "cap")) (aCons (xC (.str "bonus")) (aNil))))) (.nm 2) b5) (sRet (xBM tStr gJoin (xC (.str "\n")) (aCons (xVar 1) (aNil))))))))) := rfl
section
variable {h : Hh} {f : Nat} {d : SD}
theorem e_t1 (F : Fare h f d) (hs : Sm d.slots) (s1 s2 s3 s4 s5 s6 : Option PV) : t1 [some (.ref f), s1, s2, s3, s4, s5, s6] h = .ok (sP (lineL ("slots", [.int d.slots]))) h := by
  have hg := f_slots F
  have hn := strN hs h
  have hc := cats_S (a := ("slots" : Str).cps.toList ++ [32]) (b := nL d.slots) (by have := nL_len hs; have := lits.2.2.2.2.2.2.2.1; rw [List.length_append]; simp only [List.length_cons, List.length_nil]; omega) h
  rw [← line1] at hc
  have hl : PV.str "slots " = sP (("slots" : Str).cps.toList ++ [32]) := congrArg PV.str lits.1
  unfold t1
  rw [hl]
  simp only [Rs.bind_ok, Rs.bind_exc, Rs.toS_ok, Rs.toS_exc, List.map_cons, List.map_nil, List.length_cons, List.length_nil, List.replicate, List.cons_append, List.nil_append, List.getElem?_cons_zero, List.getElem?_cons_succ, List.getElem?_nil, List.set_cons_zero, List.set_cons_succ, Nat.reduceAdd, Nat.reduceSub, Nat.reduceEqDiff, if_true, if_false, if_pos rfl, reduceIte, xOp, xC, xCall, aCons, xVar, hg, aNil, hn, hc]
theorem e_t3 {q : Nat × Int × Int} (h1 : Sm q.2.1) (h2 : Sm q.2.2) (s0 s1 s2 s6 : Option PV) : t3 [s0, s1, s2, some (.str (ch q.1)), some (.int q.2.1), some (.int q.2.2), s6] h = .ok (sP (lineL (rRide q))) h := by
  have hn1 := strN h1 h
  have hn2 := strN h2 h
  have l0 := lits.2.2.2.2.2.2.2.2.2.1
  have l1 := nL_len h1
  have l2 := nL_len h2
  have hl : PV.str "ride " = sP (("ride" : Str).cps.toList ++ [32]) := congrArg PV.str lits.2.2.1
  have hb : PV.str " " = sP [32] := congrArg PV.str lits.2.2.2.2.1
  have hq : PV.str (ch q.1) = sP [q.1] := rfl
  have c1 := cats_S (a := ("ride" : Str).cps.toList ++ [32]) (b := [q.1]) (by simp only [List.length_append, List.length_cons, List.length_nil]; omega) h
  have c2 := cats_S (a := (("ride" : Str).cps.toList ++ [32]) ++ [q.1]) (b := [32]) (by simp only [List.length_append, List.length_cons, List.length_nil]; omega) h
  have c3 := cats_S (a := ((("ride" : Str).cps.toList ++ [32]) ++ [q.1]) ++ [32]) (b := nL q.2.1) (by simp only [List.length_append, List.length_cons, List.length_nil]; omega) h
  have c4 := cats_S (a := (((("ride" : Str).cps.toList ++ [32]) ++ [q.1]) ++ [32]) ++ nL q.2.1) (b := [32]) (by simp only [List.length_append, List.length_cons, List.length_nil]; omega) h
  have c5 := cats_S (a := ((((("ride" : Str).cps.toList ++ [32]) ++ [q.1]) ++ [32]) ++ nL q.2.1) ++ [32]) (b := nL q.2.2) (by simp only [List.length_append, List.length_cons, List.length_nil]; omega) h
  rw [← line3] at c5
  unfold t3
  rw [hl, hb, hq]
  simp only [xOp, xC, xCall, aCons, xVar, aNil, List.getElem?_cons_succ, List.getElem?_cons_zero, Rs.bind_ok, c1, c2, hn1, c3, c4, hn2, c5]
theorem e_t4 (F : Fare h f d) {q : Int × Int} (hq : d.transfer = some q) (h1 : Sm q.1) (h2 : Sm q.2) (s1 s2 s3 s4 s5 s6 : Option PV) : t4 [some (.ref f), s1, s2, s3, s4, s5, s6] h = .ok (sP (lineL ("transfer", [.int q.1, .int q.2]))) h := by
  have hg := f_transfer F
  rw [hq] at hg
  have hn1 := strN h1 h
  have hn2 := strN h2 h
  have l0 := lits.2.2.2.2.2.2.2.2.2.2.1
  have l1 := nL_len h1
  have l2 := nL_len h2
  have hl : PV.str "transfer " = sP (("transfer" : Str).cps.toList ++ [32]) := congrArg PV.str lits.2.2.2.1
  have hb : PV.str " " = sP [32] := congrArg PV.str lits.2.2.2.2.1
  have x0 : gIxT (oT (some q)) (.int 0) h = .ok (.int q.1) h := rfl
  have x1 : gIxT (oT (some q)) (.int 1) h = .ok (.int q.2) h := rfl
  have c1 := cats_S (a := ("transfer" : Str).cps.toList ++ [32]) (b := nL q.1) (by simp only [List.length_append, List.length_cons, List.length_nil]; omega) h
  have c2 := cats_S (a := (("transfer" : Str).cps.toList ++ [32]) ++ nL q.1) (b := [32]) (by simp only [List.length_append, List.length_cons, List.length_nil]; omega) h
  have c3 := cats_S (a := ((("transfer" : Str).cps.toList ++ [32]) ++ nL q.1) ++ [32]) (b := nL q.2) (by simp only [List.length_append, List.length_cons, List.length_nil]; omega) h
  rw [← line2] at c3
  unfold t4
  rw [hl, hb]
  simp only [xOp, xC, xCall, aCons, xVar, aNil, List.getElem?_cons_succ, List.getElem?_cons_zero, Rs.bind_ok, hg, x0, hn1, c1, c2, x1, hn2, c3]
theorem e_t5 {w : Str} {k : Int} (hg : gDGet (.ref f) (.str w) h = .ok (.int k) h) (hw : w.cps.toList.length ≤ 8) (hk : Sm k) (s1 s3 s4 s5 s6 : Option PV) : t5 [some (.ref f), s1, some (.str w), s3, s4, s5, s6] h = .ok (sP (lineL (w, [.int k]))) h := by
  have hn := strN hk h
  have l1 := nL_len hk
  have hb : PV.str " " = sP [32] := congrArg PV.str lits.2.2.2.2.1
  have hww : PV.str w = sP w.cps.toList := congrArg PV.str (SX.S_tl w).symm
  have c1 := cats_S (a := w.cps.toList) (b := [32]) (by simp only [List.length_append, List.length_cons, List.length_nil]; omega) h
  have c2 := cats_S (a := w.cps.toList ++ [32]) (b := nL k) (by simp only [List.length_append, List.length_cons, List.length_nil]; omega) h
  rw [← line1] at c2
  rw [← hww] at c1
  unfold t5
  rw [hb]
  simp only [xOp, xC, xCall, aCons, xVar, aNil, List.getElem?_cons_succ, List.getElem?_cons_zero, Rs.bind_ok, c1, hg, hn, c2]
end
end TR

set_option Elab.async false
set_option linter.all false
set_option maxRecDepth 100000
set_option maxHeartbeats 4000000
namespace TR
open PySem PySem.Spec L2
open SX (S)

theorem loop_str (h : Hh) (st : Sl) (hst : 6 < st.length) : ∀ (ks : List Int) (acc : List PV), (∀ k ∈ ks, Sm k) → acc.length + ks.length ≤ 1000 → lcL (.nm 6) bYes (xCall gStrI (aCons (xVar 6) (aNil))) st (ks.map .int) acc h = .ok (acc ++ (ks.map nL).map sP) h
  | [], acc, _, _ => by
    show Rs.ok acc h = _
    rw [List.map_nil, List.map_nil, List.append_nil]
  | k :: ks, acc, hk, hz => by
    simp only [List.length_cons] at hz
    have ih := loop_str h st hst ks (acc ++ [sP (nL k)]) (fun j hj => hk j (List.mem_cons_of_mem _ hj)) (by simp only [List.length_append, List.length_cons, List.length_nil]; omega)
    have hx : (st.set 6 (some (.int k)))[6]? = some (some (.int k)) := List.getElem?_set_self hst
    have hn := strN (hk k List.mem_cons_self) h
    have he : xCall gStrI (aCons (xVar 6) (aNil)) (st.set 6 (some (.int k))) h = .ok (sP (nL k)) h := by
      simp only [Rs.bind_ok, Rs.bind_exc, Rs.toS_ok, Rs.toS_exc, List.map_cons, List.map_nil, List.length_cons, List.length_nil, List.replicate, List.cons_append, List.nil_append, List.getElem?_cons_zero, List.getElem?_cons_succ, List.getElem?_nil, List.set_cons_zero, List.set_cons_succ, Nat.reduceAdd, Nat.reduceSub, Nat.reduceEqDiff, if_true, if_false, if_pos rfl, reduceIte, xCall, aCons, xVar, hx, aNil, hn]
    have ha : acc.length < sizeLine := by rw [sizeLine_eq]; omega
    rw [List.map_cons, lcL]
    simp only [Rs.bind_ok, Rs.bind_exc, Rs.toS_ok, Rs.toS_exc, List.map_cons, List.map_nil, List.length_cons, List.length_nil, List.replicate, List.cons_append, List.nil_append, List.getElem?_cons_zero, List.getElem?_cons_succ, List.getElem?_nil, List.set_cons_zero, List.set_cons_succ, Nat.reduceAdd, Nat.reduceSub, Nat.reduceEqDiff, if_true, if_false, if_pos rfl, reduceIte, asg_nm, bYes, he, ha]
    rw [ih, List.append_assoc]
    rfl
theorem strs_sP : ∀ l : List (List Nat), strsOf (l.map sP) = some (l.map S)
  | [] => rfl
  | x :: t => by
    show (match strsOf (t.map sP) with | some ns => some (S x :: ns) | none => none) = _
    rw [strs_sP t]
    rfl
theorem joinP_ok {s : List Nat} {ls : List (List Nat)} {v : PV} {h : Hh} (hv : strList v h = some (ls.map S)) (hz : (ls.map List.length).sum + ls.length * s.length ≤ 1000000) : gJoin (sP s) [v] h = .ok (sP (TL.joinL s ls)) h := by
  unfold gJoin sP
  dsimp only
  rw [hv]
  dsimp only
  have e : ((ls.map S).map (·.length)).sum = (ls.map List.length).sum := by rw [SX.lens]
  have e2 : (if ((ls.map S).map (·.length)).sum + (ls.map S).length * (S s).length ≤ 16777216 then Rs.ok (PV.str (Txt.join (S s) (ls.map S))) h else .bad) = .ok (.str (S (TL.joinL s ls))) h := by
    rw [e, SX.S_len, List.length_map, if_pos (by omega), SX.join_S]
  exact e2
section
variable {h : Hh} {f : Nat} {d : SD}
theorem peak_no (F : Fare h f d) (s1 s2 s3 s4 s5 s6 : Option PV) : t2c [some (.ref f), s1, s2, s3, s4, s5, s6] h = .ok (!decide (peakL d = [])) h := by
  have hg := f_peak F
  have he := eqd_ints true (peakL d) [] h
  have hl : xLst aNil [some (.ref f), s1, s2, s3, s4, s5, s6] h = .ok (.lst []) h := by
    show (if ([] : List PV).length ≤ sizeLine then Rs.ok (PV.lst []) h else .bad) = _
    exact if_pos (Nat.zero_le _)
  unfold t2c
  simp only [bOf, xOp, xVar, xC, List.getElem?_cons_zero, Rs.bind_ok, hg, hl]
  rw [show (PV.lst []) = .lst (([] : List Int).map .int) from rfl, he]
  rfl
theorem e_t2 (F : Fare h f d) (W : d.WF) {p : List Int} (hp : d.peak = some p) (s1 s2 s3 s4 s5 s6 : Option PV) : t2 [some (.ref f), s1, s2, s3, s4, s5, s6] h = .ok (sP (lineL ("peak", p.map .int))) h := by
  obtain ⟨hne, hb, ha⟩ := W.pk p hp
  have hz := W.pz hp
  have hsl := W.sl
  have hsm : ∀ k ∈ p, Sm k := fun k hk => by have := hb k hk; exact ⟨by omega, by omega⟩
  have hg := f_peak F
  have hpl : peakL d = p := by unfold peakL; rw [hp]; rfl
  rw [hpl] at hg
  have hl := loop_str h [some (.ref f), s1, s2, s3, s4, s5, none] (by show 6 < 7; decide) p [] hsm (by simp only [List.length_nil]; omega)
  rw [List.nil_append] at hl
  have hi : iLst (xOp gDGet (xVar 0) (xC (.str "peak"))) [some (.ref f), s1, s2, s3, s4, s5, s6] h = .ok (p.map .int) h := by
    unfold iLst
    simp only [xOp, xVar, xC, List.getElem?_cons_zero, Rs.bind_ok, hg]
  have hlc : xLc (iLst (xOp gDGet (xVar 0) (xC (.str "peak")))) (.nm 6) (bYes) (xCall gStrI (aCons (xVar 6) (aNil))) [6] [some (.ref f), s1, s2, s3, s4, s5, s6] h = .ok (.lst ((p.map nL).map sP)) h := by
    unfold xLc
    rw [hi]
    simp only [Rs.bind_ok, Rs.bind_exc, Rs.toS_ok, Rs.toS_exc, List.map_cons, List.map_nil, List.length_cons, List.length_nil, List.replicate, List.cons_append, List.nil_append, List.getElem?_cons_zero, List.getElem?_cons_succ, List.getElem?_nil, List.set_cons_zero, List.set_cons_succ, Nat.reduceAdd, Nat.reduceSub, Nat.reduceEqDiff, if_true, if_false, if_pos rfl, reduceIte, wipeS, hl]
  have hlen : ∀ q : List Int, (∀ k ∈ q, Sm k) → ((q.map nL).map List.length).sum ≤ 2 * q.length := by
    intro q hq
    induction q with
    | nil => exact Nat.le_refl _
    | cons k r ih =>
      have := ih fun j hj => hq j (List.mem_cons_of_mem _ hj)
      have := nL_len (hq k List.mem_cons_self)
      simp only [List.map_cons, List.sum_cons, List.length_cons]
      omega
  have hs : strList (.lst ((p.map nL).map sP)) h = some ((p.map nL).map S) := by
    show (some ((p.map nL).map sP)).bind strsOf = _
    rw [Option.bind_some, strs_sP]
  have hj := joinP_ok (s := [32]) hs (by have := hlen p hsm; rw [List.length_map]; simp only [List.length_cons, List.length_nil]; omega)
  have hjl : (TL.joinL [32] (p.map nL)).length ≤ 9 * p.length := by
    have := join_len 32 (p.map nL) fun x hx => by
      obtain ⟨k, hk, rfl⟩ := List.mem_map.mp hx
      have := nL_len (hsm k hk)
      omega
    rwa [List.length_map] at this
  have l0 := lits.2.2.2.2.2.2.2.2.1
  have hc := cats_S (a := ("peak" : Str).cps.toList ++ [32]) (b := TL.joinL [32] (p.map nL)) (by simp only [List.length_append, List.length_cons, List.length_nil]; omega) h
  rw [← linep p hne] at hc
  have hlp : PV.str "peak " = sP (("peak" : Str).cps.toList ++ [32]) := congrArg PV.str lits.2.1
  have hb2 : PV.str " " = sP [32] := congrArg PV.str lits.2.2.2.2.1
  have hts : tStr (sP [32]) h = true := rfl
  unfold t2
  rw [hlp, hb2]
  simp only [xOp, xC, xBM, hts, if_true, aCons, aNil, hlc, Rs.bind_ok, hj, hc]
end
end TR

set_option Elab.async false
set_option linter.all false
set_option maxRecDepth 100000
set_option maxHeartbeats 4000000
namespace TR
open PySem PySem.Spec L2
open SX (S)

section
variable {h : Hh} {f : Nat} {d : SD}
theorem Fare.rows {h0 : Hh} (F : Fare h0 f d) (ls : List (List Nat)) : Fare (rowsH h0 ls) f d := get_app F _
theorem loop_t3 (h0 : Hh) (s0 s2 s6 : Option PV) : ∀ (qs : List (Nat × Int × Int)) (ls : List (List Nat)) (s3 s4 s5 : Option PV), (∀ q ∈ qs, Sm q.2.1 ∧ Sm q.2.2) → ls.length + qs.length ≤ 1000 →
    ∃ b3' b4 b5', forL (.tp [.nm 3, .nm 4, .nm 5]) b3 (qs.map kindP) [s0, some (.ref h0.length), s2, s3, s4, s5, s6] (rowsH h0 ls) = .nx [s0, some (.ref h0.length), s2, b3', b4, b5', s6] (rowsH h0 (ls ++ qs.map fun q => lineL (rRide q)))
  | [], ls, s3, s4, s5, _, _ => ⟨s3, s4, s5, by rw [List.map_nil, List.map_nil, List.append_nil]; rfl⟩
  | q :: qs, ls, s3, s4, s5, hq, hz => by
    simp only [List.length_cons] at hz
    obtain ⟨h1, h2⟩ := hq q List.mem_cons_self
    have he := e_t3 (h := rowsH h0 ls) h1 h2 s0 (some (.ref h0.length)) s2 s6
    have hb : b3 [s0, some (.ref h0.length), s2, some (.str (ch q.1)), some (.int q.2.1), some (.int q.2.2), s6] (rowsH h0 ls) = .nx [s0, some (.ref h0.length), s2, some (.str (ch q.1)), some (.int q.2.1), some (.int q.2.2), s6] (rowsH h0 (ls ++ [lineL (rRide q)])) := push_ok rfl he (by omega)
    obtain ⟨c3, c4, c5, ih⟩ := loop_t3 h0 s0 s2 s6 qs (ls ++ [lineL (rRide q)]) (some (.str (ch q.1))) (some (.int q.2.1)) (some (.int q.2.2)) (fun x hx => hq x (List.mem_cons_of_mem _ hx)) (by simp only [List.length_append, List.length_cons, List.length_nil]; omega)
    refine ⟨c3, c4, c5, ?_⟩
    rw [List.map_cons]
    show forL _ b3 (.tup [.str (ch q.1), .int q.2.1, .int q.2.2] :: qs.map kindP) _ _ = _
    rw [forL, asg_3]
    simp only [Rs.bind_ok, Rs.bind_exc, Rs.toS_ok, Rs.toS_exc, List.map_cons, List.map_nil, List.length_cons, List.length_nil, List.replicate, List.cons_append, List.nil_append, List.getElem?_cons_zero, List.getElem?_cons_succ, List.getElem?_nil, List.set_cons_zero, List.set_cons_succ, Nat.reduceAdd, Nat.reduceSub, Nat.reduceEqDiff, if_true, if_false, if_pos rfl, reduceIte, hb]
    rw [ih, List.append_assoc]
    rfl
theorem turn_t5 {h0 : Hh} {ls : List (List Nat)} {w : Str} {o : Option Int} (hg : gDGet (.ref f) (.str w) (rowsH h0 ls) = .ok (oI o) (rowsH h0 ls)) (hw : w.cps.toList.length ≤ 8) (hk : ∀ k, o = some k → Sm k) (hz : ls.length ≤ 500) (s3 s4 s5 s6 : Option PV) :
    b5 [some (.ref f), some (.ref h0.length), some (.str w), s3, s4, s5, s6] (rowsH h0 ls) = .nx [some (.ref f), some (.ref h0.length), some (.str w), s3, s4, s5, s6] (rowsH h0 (ls ++ (rOne w o).map lineL)) := by
  cases o with
  | none =>
    have hc : t5c [some (.ref f), some (.ref h0.length), some (.str w), s3, s4, s5, s6] (rowsH h0 ls) = .ok false (rowsH h0 ls) := by
      unfold t5c
      simp only [bOf, xOp, xVar, xC, List.getElem?_cons_succ, List.getElem?_cons_zero, Rs.bind_ok, hg]
      rfl
    unfold b5
    rw [sIf_f hc]
    show SR.nx _ _ = SR.nx _ (rowsH h0 (ls ++ []))
    rw [List.append_nil]
  | some k =>
    have hc : t5c [some (.ref f), some (.ref h0.length), some (.str w), s3, s4, s5, s6] (rowsH h0 ls) = .ok true (rowsH h0 ls) := by
      unfold t5c
      simp only [bOf, xOp, xVar, xC, List.getElem?_cons_succ, List.getElem?_cons_zero, Rs.bind_ok, hg]
      rfl
    have he := e_t5 (h := rowsH h0 ls) (w := w) (k := k) hg hw (hk k rfl) (some (.ref h0.length)) s3 s4 s5 s6
    unfold b5
    rw [sIf_t hc]
    exact push_ok rfl he (by omega)
theorem rowsW_lines (d : SD) : d.rowsW.map lineL = ((([lineL ("slots", [.int d.slots])] ++ (rPeak d.peak).map lineL) ++ d.rides.map fun q => lineL (rRide q)) ++ (rTransfer d.transfer).map lineL) ++ (rOne "cap" d.cap).map lineL ++ (rOne "bonus" d.bonus).map lineL := by
  unfold SD.rowsW SD.tail
  simp only [List.map_cons, List.map_append, List.map_map, List.append_assoc, List.cons_append, List.nil_append]
  rfl
theorem line_len {d : SD} (W : d.WF) : ∀ x ∈ d.rowsW.map lineL, x.length ≤ 500 := by
  intro x hx
  obtain ⟨r, hr, rfl⟩ := List.mem_map.mp hx
  exact (good_fine (good_all W) r hr).z
theorem run_ltext (F : Fare h f d) (W : d.WF) : ∃ ls, r_law_text [.ref f] h = .ok (.str (S (textL d.rowsW))) (h ++ [.lst ls]) := by
  have hsl := W.sl
  have hs : Sm d.slots := ⟨by omega, by omega⟩
  have hrl := W.rlen
  refine ⟨(d.rowsW.map lineL).map sP, ?_⟩
  have e1 := e_t1 F hs none none none none none none
  have k1 : sSet 1 (xLstI (aCons t1 (aNil))) [some (.ref f), none, none, none, none, none, none] h = .nx [some (.ref f), some (.ref h.length), none, none, none, none, none] (rowsH h [lineL ("slots", [.int d.slots])]) := by
    refine sSet_ok ?_
    unfold xLstI aCons aNil
    rw [e1, Rs.bind_ok, Rs.bind_ok, Rs.bind_ok, if_pos (by rw [sizeLine_eq]; show 1 ≤ 16777216; omega)]
    rfl
  have k2 : sIf t2c (sDrop (xBM tList gAppend (xVar 1) (aCons t2 (aNil)))) (sNext) [some (.ref f), some (.ref h.length), none, none, none, none, none] (rowsH h [lineL ("slots", [.int d.slots])]) = .nx [some (.ref f), some (.ref h.length), none, none, none, none, none] (rowsH h ([lineL ("slots", [.int d.slots])] ++ (rPeak d.peak).map lineL)) := by
    have hc := peak_no (F.rows [lineL ("slots", [.int d.slots])]) (some (.ref h.length)) none none none none none
    cases hp : d.peak with
    | none =>
      have hpl : peakL d = [] := by unfold peakL; rw [hp]; rfl
      rw [hpl] at hc
      rw [sIf_f hc]
      rfl
    | some p =>
      have hpl : peakL d = p := by unfold peakL; rw [hp]; rfl
      rw [hpl, decide_eq_false (W.pk p hp).1] at hc
      rw [sIf_t hc]
      exact push_ok rfl (e_t2 (F.rows _) W hp (some (.ref h.length)) none none none none none) (by show 1 ≤ 1000; omega)
  generalize hls2 : [lineL ("slots", [.int d.slots])] ++ (rPeak d.peak).map lineL = ls2 at k2
  have hz2 : ls2.length ≤ 2 := by
    rw [← hls2]
    cases d.peak with
    | none => show 1 ≤ 2; omega
    | some p => show 2 ≤ 2; omega
  have hk := f_kinds (F.rows ls2)
  obtain ⟨c3, c4, c5, k3⟩ := loop_t3 h (some (.ref f)) none none d.rides ls2 none none none (fun q hq => (W.rok q hq).2.2) (by omega)
  have hi : iLst (xOp gDGet (xVar 0) (xC (.str "kinds"))) [some (.ref f), some (.ref h.length), none, none, none, none, none] (rowsH h ls2) = .ok (d.rides.map kindP) (rowsH h ls2) := by
    unfold iLst
    simp only [xOp, xVar, xC, List.getElem?_cons_zero, Rs.bind_ok, hk]
  have k3' := (sFor_ok (t := .tp [.nm 3, .nm 4, .nm 5]) (fb := b3) hi).trans k3
  generalize hls3 : ls2 ++ (d.rides.map fun q => lineL (rRide q)) = ls3 at k3'
  have hz3 : ls3.length ≤ 5 := by
    rw [← hls3, List.length_append, List.length_map]
    omega
  have k4 : sIf t4c (sDrop (xBM tList gAppend (xVar 1) (aCons t4 (aNil)))) (sNext) [some (.ref f), some (.ref h.length), none, c3, c4, c5, none] (rowsH h ls3) = .nx [some (.ref f), some (.ref h.length), none, c3, c4, c5, none] (rowsH h (ls3 ++ (rTransfer d.transfer).map lineL)) := by
    have hg := f_transfer (F.rows ls3)
    cases ht : d.transfer with
    | none =>
      rw [ht] at hg
      have hc : t4c [some (.ref f), some (.ref h.length), none, c3, c4, c5, none] (rowsH h ls3) = .ok false (rowsH h ls3) := by
        unfold t4c
        simp only [bOf, xOp, xVar, xC, List.getElem?_cons_zero, Rs.bind_ok, hg]
        rfl
      rw [sIf_f hc]
      show SR.nx _ _ = SR.nx _ (rowsH h (ls3 ++ []))
      rw [List.append_nil]
    | some q =>
      rw [ht] at hg
      obtain ⟨⟨a1, a2⟩, a3⟩ := W.tr q ht
      have hc : t4c [some (.ref f), some (.ref h.length), none, c3, c4, c5, none] (rowsH h ls3) = .ok true (rowsH h ls3) := by
        unfold t4c
        simp only [bOf, xOp, xVar, xC, List.getElem?_cons_zero, Rs.bind_ok, hg]
        rfl
      rw [sIf_t hc]
      exact push_ok rfl (e_t4 (F.rows _) ht ⟨a1, by omega⟩ a3 (some (.ref h.length)) none c3 c4 c5 none) (by omega)
  generalize hls4 : ls3 ++ (rTransfer d.transfer).map lineL = ls4 at k4
  have hz4 : ls4.length ≤ 6 := by
    rw [← hls4, List.length_append, List.length_map]
    have : (rTransfer d.transfer).length ≤ 1 := by
      cases d.transfer with
      | none => show 0 ≤ 1; omega
      | some q => show 1 ≤ 1; omega
    omega
  have m1 := turn_t5 (f_cap (F.rows ls4)) lits.2.2.2.2.2.2.2.2.2.2.2.1 W.cp (by omega) c3 c4 c5 none
  generalize hls5 : ls4 ++ (rOne "cap" d.cap).map lineL = ls5 at m1
  have hz5 : ls5.length ≤ 7 := by
    rw [← hls5, List.length_append, List.length_map]
    have : (rOne "cap" d.cap).length ≤ 1 := by
      cases d.cap with
      | none => show 0 ≤ 1; omega
      | some q => show 1 ≤ 1; omega
    omega
  have m2 := turn_t5 (f_bonus (F.rows ls5)) lits.2.2.2.2.2.2.2.2.2.2.2.2 (fun k e => by have := W.bn k e; exact ⟨by omega, by omega⟩) (by omega) c3 c4 c5 none
  have hwl : iLst (xLst (aCons (xC (.str "cap")) (aCons (xC (.str "bonus")) (aNil)))) [some (.ref f), some (.ref h.length), none, c3, c4, c5, none] (rowsH h ls4) = .ok [.str "cap", .str "bonus"] (rowsH h ls4) := by
    unfold iLst xLst aCons aNil xC
    rw [Rs.bind_ok, Rs.bind_ok, Rs.bind_ok, Rs.bind_ok, Rs.bind_ok, if_pos (by rw [sizeLine_eq]; show 2 ≤ 16777216; omega)]
    rfl
  have k5 : sFor (iLst (xLst (aCons (xC (.str "cap")) (aCons (xC (.str "bonus")) (aNil))))) (.nm 2) b5 [some (.ref f), some (.ref h.length), none, c3, c4, c5, none] (rowsH h ls4) = .nx [some (.ref f), some (.ref h.length), some (.str "bonus"), c3, c4, c5, none] (rowsH h (ls5 ++ (rOne "bonus" d.bonus).map lineL)) := by
    rw [sFor_ok hwl, forL, asg_nm]
    simp only [Rs.bind_ok, Rs.bind_exc, Rs.toS_ok, Rs.toS_exc, List.map_cons, List.map_nil, List.length_cons, List.length_nil, List.replicate, List.cons_append, List.nil_append, List.getElem?_cons_zero, List.getElem?_cons_succ, List.getElem?_nil, List.set_cons_zero, List.set_cons_succ, Nat.reduceAdd, Nat.reduceSub, Nat.reduceEqDiff, if_true, if_false, if_pos rfl, reduceIte, m1]
    rw [forL, asg_nm]
    simp only [Rs.bind_ok, Rs.bind_exc, Rs.toS_ok, Rs.toS_exc, List.map_cons, List.map_nil, List.length_cons, List.length_nil, List.replicate, List.cons_append, List.nil_append, List.getElem?_cons_zero, List.getElem?_cons_succ, List.getElem?_nil, List.set_cons_zero, List.set_cons_succ, Nat.reduceAdd, Nat.reduceSub, Nat.reduceEqDiff, if_true, if_false, if_pos rfl, reduceIte, m2]
    rfl
  have hfin : ls5 ++ (rOne "bonus" d.bonus).map lineL = d.rowsW.map lineL := by rw [rowsW_lines, ← hls5, ← hls4, ← hls3, ← hls2]
  rw [hfin] at k5
  have hst : strList (.ref h.length) (rowsH h (d.rowsW.map lineL)) = some ((d.rowsW.map lineL).map S) := by
    show (asL (.ref h.length) (rowsH h (d.rowsW.map lineL))).bind strsOf = _
    unfold asL
    dsimp only
    rw [rowsH_at]
    show strsOf ((d.rowsW.map lineL).map sP) = _
    rw [strs_sP]
  have hll := line_len W
  have hsum : ∀ l : List (List Nat), (∀ x ∈ l, x.length ≤ 500) → (l.map List.length).sum ≤ 500 * l.length := by
    intro l hl
    induction l with
    | nil => exact Nat.le_refl _
    | cons x t ih =>
      have := ih fun y hy => hl y (List.mem_cons_of_mem _ hy)
      have := hl x List.mem_cons_self
      simp only [List.map_cons, List.sum_cons, List.length_cons]
      omega
  have hrw := rows_len W.fit
  have hj := joinP_ok (s := [10]) hst (by have := hsum _ hll; rw [List.length_map] at this ⊢; simp only [List.length_cons, List.length_nil]; omega)
  have hret : sRet (xBM tStr gJoin (xC (.str "\n")) (aCons (xVar 1) (aNil))) [some (.ref f), some (.ref h.length), some (.str "bonus"), c3, c4, c5, none] (rowsH h (d.rowsW.map lineL)) = .ret (.str (S (textL d.rowsW))) (rowsH h (d.rowsW.map lineL)) := by
    refine sRet_ok ?_
    have hn : PV.str "\n" = sP [10] := congrArg PV.str blank.2
    rw [hn]
    show (if tStr (sP [10]) (rowsH h (d.rowsW.map lineL)) = true then gJoin (sP [10]) [.ref h.length] (rowsH h (d.rowsW.map lineL)) else .bad) = _
    rw [if_pos (show tStr (sP [10]) (rowsH h (d.rowsW.map lineL)) = true from rfl), hj]
    rfl
  rw [ltext_def]
  refine runF_ret rfl ?_
  show sSeq _ _ [some (.ref f), none, none, none, none, none, none] h = _
  rw [sSeq_nx k1, sSeq_nx k2, sSeq_nx k3', sSeq_nx k4, sSeq_nx k5]
  exact hret
end
end TR

set_option Elab.async false
set_option linter.all false
set_option maxRecDepth 100000
set_option maxHeartbeats 4000000
namespace TR
open PySem PySem.Spec L2
open SX (S)

/-! ### the search ends -/
theorem step_total {s : Sys} {c : Cd} {x : Nat} (h : x ∈ s.lets) : ∃ d k, step s c x = some (d, k) := by
  unfold step
  by_cases hx : x = 46
  · rw [if_pos hx]
    exact ⟨_, _, rfl⟩
  · rw [if_neg hx]
    have hm : x ∈ s.prices.map (·.1) := by
      rcases List.mem_append.mp h with h | h
      · exact h
      · exact absurd (List.mem_singleton.mp h) hx
    obtain ⟨q, hq, rfl⟩ := List.mem_map.mp hm
    cases e : s.prices.lookup q.1 with
    | none => exact absurd (List.lookup_eq_none_iff.mp e q hq) (by simp)
    | some p => exact ⟨_, _, rfl⟩
theorem addL_total {s : Sys} {c : Cd} : ∀ (ls : List Nat) (l : List Cd), (∀ x ∈ ls, x ∈ s.lets) → ∃ g, addL s c ls l = some g
  | [], l, _ => ⟨l, rfl⟩
  | x :: ls, l, h => by
    obtain ⟨d, k, e⟩ := step_total (c := c) (h x List.mem_cons_self)
    obtain ⟨g, hg⟩ := addL_total (c := c) ls (if d ∈ l then l else l ++ [d]) fun y hy => h y (List.mem_cons_of_mem _ hy)
    refine ⟨g, ?_⟩
    rw [addL, e]
    exact hg
theorem reach_total {s : Sys} : ∀ (q k : Nat) (l : List Cd), k ≤ 100 → 102 ≤ q + k → ∃ g, reach s 100 q k l = some g
  | 0, k, l, h1, h2 => absurd h2 (by omega)
  | q + 1, k, l, h1, h2 => by
    rw [reach]
    by_cases hc : (k : Int) < (l.length : Nat) ∧ (l.length : Int) ≤ 100
    · rw [if_pos hc]
      have hk : k < l.length := by omega
      rw [List.getElem?_eq_getElem hk]
      obtain ⟨g, hg⟩ := addL_total (s := s) (c := l[k]) s.lets l fun x hx => hx
      dsimp only
      rw [hg]
      dsimp only
      exact reach_total q (k + 1) g (by omega) (by omega)
    · rw [if_neg hc]
      exact ⟨l, rfl⟩
theorem run_parse_big {d : SD} (W : d.WF) (h : Hh) {g : List Cd} {q : Nat} (hr : reach d.sys 100 q 0 [newC] = some g) (hq : q ≤ 1000000) (hg : 100 < g.length) :
    r_System_parse [.cls 3, .str (S (textL d.rowsW))] h = .exc 1 [("bound", .int 100)] (h ++ [.gone, .ins 3 d.sys.fs, .gone, .dcn (kD g)]) := by
  have h1 := run_text W h
  have h2 := run_init W.fit (h ++ [.gone]) hr hq
  rw [if_pos hg] at h2
  have hl : (h ++ [Ob.gone]).length = h.length + 1 := by simp
  have he : (h ++ [Ob.gone]) ++ [.ins 3 d.sys.fs, .gone, .dcn (kD g)] = h ++ [.gone, .ins 3 d.sys.fs, .gone, .dcn (kD g)] := by simp
  rw [he, hl] at h2
  unfold r_System_parse
  simp only [Rs.bind_ok, Rs.bind_exc, Rs.toS_ok, Rs.toS_exc, List.map_cons, List.map_nil, List.length_cons, List.length_nil, List.replicate, List.cons_append, List.nil_append, List.getElem?_cons_zero, List.getElem?_cons_succ, List.getElem?_nil, List.set_cons_zero, List.set_cons_succ, Nat.reduceAdd, Nat.reduceSub, Nat.reduceEqDiff, if_true, if_false, if_pos rfl, reduceIte, runF, startS, sRet, xMakeV, xMake, aCons, aNil, xCall, xVar, h1, hl, h2]
theorem large_def : r_law_large = runF 1 3 (sSeq (sSet 1 (xC .non)) (sSeq (sTryF (sDrop (xCMeth 3 r_System_parse (aCons (xVar 0) (aNil)))) 1 "bound" 2 1) (sRet (xVar 1)))) := rfl
theorem run_large {d : SD} (W : d.WF) (h : Hh) {g : List Cd} {q : Nat} (hr : reach d.sys 100 q 0 [newC] = some g) (hq : q ≤ 1000000) :
    r_law_large [.str (S (textL d.rowsW))] h = .ok (if 100 < g.length then .int 100 else .non) (h ++ [.gone, .ins 3 d.sys.fs, .gone, .dcn (kD g)]) := by
  rw [large_def]
  by_cases hg : 100 < g.length
  · rw [if_pos hg]
    have hp := run_parse_big W h hr hq hg
    refine runF_ret rfl ?_
    show sSeq _ _ [some (.str (S (textL d.rowsW))), none, none] h = _
    have k1 : sSet 1 (xC .non) [some (.str (S (textL d.rowsW))), none, none] h = .nx [some (.str (S (textL d.rowsW))), some .non, none] h := rfl
    rw [sSeq_nx k1]
    have k2 : sTryF (sDrop (xCMeth 3 r_System_parse (aCons (xVar 0) (aNil)))) 1 "bound" 2 1 [some (.str (S (textL d.rowsW))), some .non, none] h = .nx [some (.str (S (textL d.rowsW))), some (.int 100), none] (h ++ [.gone, .ins 3 d.sys.fs, .gone, .dcn (kD g)]) := by
      have hb : sDrop (xCMeth 3 r_System_parse (aCons (xVar 0) (aNil))) [some (.str (S (textL d.rowsW))), some .non, none] h = .exc 1 [("bound", .int 100)] [some (.str (S (textL d.rowsW))), some .non, none] (h ++ [.gone, .ins 3 d.sys.fs, .gone, .dcn (kD g)]) := by
        simp only [Rs.bind_ok, Rs.bind_exc, Rs.toS_ok, Rs.toS_exc, List.map_cons, List.map_nil, List.length_cons, List.length_nil, List.replicate, List.cons_append, List.nil_append, List.getElem?_cons_zero, List.getElem?_cons_succ, List.getElem?_nil, List.set_cons_zero, List.set_cons_succ, Nat.reduceAdd, Nat.reduceSub, Nat.reduceEqDiff, if_true, if_false, if_pos rfl, reduceIte, sDrop, xCMeth, aCons, xVar, aNil, hp]
      unfold sTryF
      rw [hb]
      rfl
    rw [sSeq_nx k2]
    rfl
  · rw [if_neg hg]
    have hp := run_parse W h hr hq (by omega)
    refine runF_ret rfl ?_
    show sSeq _ _ [some (.str (S (textL d.rowsW))), none, none] h = _
    have k1 : sSet 1 (xC .non) [some (.str (S (textL d.rowsW))), none, none] h = .nx [some (.str (S (textL d.rowsW))), some .non, none] h := rfl
    rw [sSeq_nx k1]
    have k2 : sTryF (sDrop (xCMeth 3 r_System_parse (aCons (xVar 0) (aNil)))) 1 "bound" 2 1 [some (.str (S (textL d.rowsW))), some .non, none] h = .nx [some (.str (S (textL d.rowsW))), some .non, none] (h ++ [.gone, .ins 3 d.sys.fs, .gone, .dcn (kD g)]) := by
      have hb : sDrop (xCMeth 3 r_System_parse (aCons (xVar 0) (aNil))) [some (.str (S (textL d.rowsW))), some .non, none] h = .nx [some (.str (S (textL d.rowsW))), some .non, none] (h ++ [.gone, .ins 3 d.sys.fs, .gone, .dcn (kD g)]) := by
        simp only [Rs.bind_ok, Rs.bind_exc, Rs.toS_ok, Rs.toS_exc, List.map_cons, List.map_nil, List.length_cons, List.length_nil, List.replicate, List.cons_append, List.nil_append, List.getElem?_cons_zero, List.getElem?_cons_succ, List.getElem?_nil, List.set_cons_zero, List.set_cons_succ, Nat.reduceAdd, Nat.reduceSub, Nat.reduceEqDiff, if_true, if_false, if_pos rfl, reduceIte, sDrop, xCMeth, aCons, xVar, aNil, hp]
      unfold sTryF
      rw [hb]
    rw [sSeq_nx k2]
    rfl

/-! ### draws -/
def Fd (h : Hh) (f : Nat) : Prop := ∃ a b, h[f]? = some (.lst [.int a, .int b])
/-- the heap but the feed -/
def Oth (f : Nat) (h h' : Hh) : Prop := h'.length = h.length ∧ ∀ i, i ≠ f → h'[i]? = h[i]?
theorem Oth.refl (f : Nat) (h : Hh) : Oth f h h := ⟨rfl, fun _ _ => rfl⟩
theorem take_ok {h : Hh} {f : Nat} {st : Sl} {i : Nat} (F : Fd h f) (hi : st[i]? = some (some (.ref f))) {m : Int} (hm : 0 < m) (hm2 : m < 1073741824) : ∃ n h', (0 ≤ n ∧ n < m) ∧ xCall r_law_take (aCons (xVar i) (aCons (xC (.int m)) (aNil))) st h = .ok (.int n) h' ∧ Fd h' f ∧ Oth f h h' := by
  obtain ⟨a, b, hf⟩ := F
  obtain ⟨n, a', b', hn, e⟩ := run_take hf hm hm2
  refine ⟨n, h.set f (.lst [.int a', .int b']), hn, ?_, ⟨a', b', List.getElem?_set_self (List.getElem?_eq_some_iff.mp hf).1⟩, by simp, fun j hj => List.getElem?_set_ne (fun z => hj z.symm)⟩
  simp only [Rs.bind_ok, Rs.bind_exc, Rs.toS_ok, Rs.toS_exc, List.map_cons, List.map_nil, List.length_cons, List.length_nil, List.replicate, List.cons_append, List.nil_append, List.getElem?_cons_zero, List.getElem?_cons_succ, List.getElem?_nil, List.set_cons_zero, List.set_cons_succ, Nat.reduceAdd, Nat.reduceSub, Nat.reduceEqDiff, if_true, if_false, if_pos rfl, reduceIte, xCall, aCons, xVar, hi, xC, aNil, e]
theorem Fd.app {h : Hh} {f : Nat} (F : Fd h f) (t : Hh) : Fd (h ++ t) f := by
  obtain ⟨a, b, e⟩ := F
  exact ⟨a, b, get_app e t⟩
end TR

set_option Elab.async false
set_option linter.all false
set_option maxRecDepth 100000
set_option maxHeartbeats 4000000
namespace TR
open PySem PySem.Spec L2
open SX (S)

theorem run_pick {h : Hh} {f : Nat} (F : Fd h f) {l : List PV} (hne : l ≠ []) (hz : l.length ≤ 1000) : ∃ v h', v ∈ l ∧ r_law_pick [.ref f, .lst l] h = .ok v h' ∧ Fd h' f ∧ Oth f h h' := by
  obtain ⟨a, b, hf⟩ := F
  have hp : 0 < l.length := List.length_pos_iff.mpr hne
  obtain ⟨n, a', b', ⟨hn, hn2⟩, e⟩ := run_take hf (m := (l.length : Nat)) (by omega) (by omega)
  have hl : gLen [.lst l] h = .ok (.int (l.length : Nat)) h := rfl
  have hk : n.toNat < l.length := by omega
  have hx : ∀ hh : Hh, gIxL (.lst l) (.int n) hh = .ok l[n.toNat] hh := fun hh => by
    have := atI_nat (l := l) (k := n.toNat) (v := l[n.toNat]) (List.getElem?_eq_getElem hk)
    rw [show ((n.toNat : Nat) : Int) = n by omega] at this
    unfold gIxL asL
    dsimp only
    rw [this]
  refine ⟨l[n.toNat], h.set f (.lst [.int a', .int b']), List.getElem_mem hk, ?_, ⟨a', b', List.getElem?_set_self (List.getElem?_eq_some_iff.mp hf).1⟩, by simp, fun j hj => List.getElem?_set_ne (fun z => hj z.symm)⟩
  unfold r_law_pick
  simp only [Rs.bind_ok, Rs.bind_exc, Rs.toS_ok, Rs.toS_exc, List.map_cons, List.map_nil, List.length_cons, List.length_nil, List.replicate, List.cons_append, List.nil_append, List.getElem?_cons_zero, List.getElem?_cons_succ, List.getElem?_nil, List.set_cons_zero, List.set_cons_succ, Nat.reduceAdd, Nat.reduceSub, Nat.reduceEqDiff, if_true, if_false, if_pos rfl, reduceIte, runF, startS, sRet, xOp, xVar, xCall, aCons, aNil, hl, e, hx]
def Lof (s : Int) (t : Option (Int × Int)) (c b : Option Int) : List (PV × PV) := [(.str "slots", .int s), (.str "peak", .lst []), (.str "transfer", oT t), (.str "cap", oI c), (.str "bonus", oI b)]
def g1x : Ex := xDisp true [(xC (.str "slots"), xOp gAdd (xC (.int 1)) (xCall r_law_take (aCons (xVar 0) (aCons (xC (.int 8)) (aNil))))), (xC (.str "peak"), xLst (aNil)), (xC (.str "transfer"), xC .non), (xC (.str "cap"), xC .non), (xC (.str "bonus"), xC .non)]
def g2c : Eb := bOf (xOp (gEqD false) (xCall r_law_take (aCons (xVar 0) (aCons (xC (.int 2)) (aNil)))) (xC (.int 0)))
def g2a : Ex := xDisp false [(xC (.str "cap"), xOp gAdd (xC (.int 8)) (xCall r_law_take (aCons (xVar 0) (aCons (xC (.int 13)) (aNil)))))]
def g2b : Ex := xDisp false [(xC (.str "transfer"), xTup (aCons (xCall r_law_take (aCons (xVar 0) (aCons (xC (.int 5)) (aNil)))) (aCons (xC (.int 1)) (aNil)))), (xC (.str "bonus"), xOp gAdd (xC (.int 2)) (xCall r_law_take (aCons (xVar 0) (aCons (xC (.int 3)) (aNil)))))]
def g3x : Ex := xCall r_law_pick (aCons (xVar 0) (aCons (xLst (aCons (xC (.int 1)) (aCons (xC (.int 2)) (aCons (xC (.int 3)) (aNil))))) (aNil)))
def g4k : Ex := xOp gCatL (xLst (aCons (xTup (aCons (xC (.str "a")) (aCons (xVar 2) (aCons (xC (.int 0)) (aNil))))) (aNil))) (xSl gSlL (xLst (aCons (xTup (aCons (xC (.str "b")) (aCons (xOp gAdd (xC (.int 1)) (xCall r_law_take (aCons (xVar 0) (aCons (xC (.int 5)) (aNil))))) (aCons (xC (.int 7)) (aNil))))) (aNil))) (pNone) (pSome (xCall r_law_take (aCons (xVar 0) (aCons (xC (.int 2)) (aNil))))))
def gU (e : Ex) : Sx := sDrop (xBM tDctR gUpd (xVar 1) (aCons e aNil))
theorem big_def : r_law_big = runF 1 3 (sSeq (sSet 1 g1x) (sSeq (sIf g2c (gU g2a) (gU g2b)) (sSeq (sSet 2 g3x) (sSeq (gU (xDisp false [(xC (.str "kinds"), g4k)])) (sRet (xVar 1)))))) := rfl
theorem xOp_ok {g : PV → PV → Hh → Rs PV} {f1 f2 : Ex} {st : Sl} {h h1 h2 : Hh} {a b : PV} (e1 : f1 st h = .ok a h1) (e2 : f2 st h1 = .ok b h2) : xOp g f1 f2 st h = g a b h2 := by
  unfold xOp
  rw [e1, Rs.bind_ok, e2, Rs.bind_ok]
theorem prL_cons {fk fv : Ex} {r : List (Ex × Ex)} {st : Sl} {h h1 h2 h3 : Hh} {q v : PV} {k : Key} {ps : List (Key × PV)} (e1 : fk st h = .ok q h1) (e2 : fv st h1 = .ok v h2) (e3 : keyV q = some k) (e4 : prL r st h2 = .ok ps h3) : prL ((fk, fv) :: r) st h = .ok ((k, v) :: ps) h3 := by
  unfold prL
  rw [e1]
  dsimp only
  rw [e2, e3]
  dsimp only
  rw [e4]
theorem disp_ok {b : Bool} {fs : List (Ex × Ex)} {st : Sl} {h h1 : Hh} {ps : List (Key × PV)} (hl : fs.length ≤ 15) (hp : prL fs st h = .ok ps h1) : xDisp b fs st h = endD b (putAll [] ps) h1 := by
  unfold xDisp
  rw [if_pos hl, hp]
theorem put0 (s : Int) : putAll [] [(.inr "slots", .int s), (.inr "peak", .lst []), (.inr "transfer", .non), (.inr "cap", .non), (.inr "bonus", .non)] = Lof s none none none := rfl
theorem put1 (s k : Int) : putAll (Lof s none none none) [(.inr "cap", .int k)] = Lof s none (some k) none := rfl
theorem put2' (s t p b : Int) : putAll (Lof s none none none) [(.inr "transfer", .tup [.int t, .int p]), (.inr "bonus", .int b)] = Lof s (some (t, p)) none (some b) := rfl
theorem put3 (s : Int) (t : Option (Int × Int)) (c b : Option Int) (v : PV) : putAll (Lof s t c b) [(.inr "kinds", v)] = Lof s t c b ++ [(.str "kinds", v)] := rfl
theorem upd_ok {st : Sl} {h h' : Hh} {D : Nat} {e : Ex} {l : List (PV × PV)} {m : List (PV × PV)} {ps : List (Key × PV)} (hi : st[1]? = some (some (.ref D))) (h0 : ∃ l0, h[D]? = some (.dct l0)) (he : e st h = .ok (.dct m) h') (hd : h'[D]? = some (.dct l)) (hk : keyed m = some ps) (hz : l.length + m.length ≤ 1000) :
    gU e st h = .nx st (h'.set D (.dct (putAll l ps))) := by
  have ht : tDctR (.ref D) h = true := by
    obtain ⟨l0, e0⟩ := h0
    show (asD (.ref D) h).isSome = true
    unfold asD
    dsimp only
    rw [e0]
    rfl
  have hg : gUpd (.ref D) [.dct m] h' = .ok .non (h'.set D (.dct (putAll l ps))) := by
    unfold gUpd
    dsimp only
    rw [hd]
    dsimp only
    rw [hk]
    dsimp only
    rw [if_pos (by rw [sizeLine_eq]; omega)]
  unfold gU
  simp only [Rs.bind_ok, Rs.bind_exc, Rs.toS_ok, Rs.toS_exc, List.map_cons, List.map_nil, List.length_cons, List.length_nil, List.replicate, List.cons_append, List.nil_append, List.getElem?_cons_zero, List.getElem?_cons_succ, List.getElem?_nil, List.set_cons_zero, List.set_cons_succ, Nat.reduceAdd, Nat.reduceSub, Nat.reduceEqDiff, if_true, if_false, if_pos rfl, reduceIte, sDrop, xBM, xVar, hi, ht, aCons, he, aNil, hg]
theorem Oth.trans {f : Nat} {h h1 h2 : Hh} (a : Oth f h h1) (b : Oth f h1 h2) : Oth f h h2 := ⟨b.1.trans a.1, fun i hi => (b.2 i hi).trans (a.2 i hi)⟩
theorem Fd.set {h : Hh} {f n : Nat} (F : Fd h f) (hn : n ≠ f) (o : Ob) : Fd (h.set n o) f := by
  obtain ⟨a, b, e⟩ := F
  exact ⟨a, b, by rw [List.getElem?_set_ne hn]; exact e⟩
theorem run_big {h : Hh} {f : Nat} (F : Fd h f) : ∃ d n h', SD.WF d ∧ r_law_big [.ref f] h = .ok (.ref n) h' ∧ Fare h' n d ∧ Fd h' f := by
  -- slots
  obtain ⟨n1, h1, ⟨z1, z1'⟩, t1, F1, O1⟩ := take_ok (st := [some (.ref f), none, none]) (i := 0) F rfl (m := 8) (by decide) (by decide)
  have hfl : f < h1.length := by
    obtain ⟨a, b, e⟩ := F1
    exact (List.getElem?_eq_some_iff.mp e).1
  have e1 : g1x [some (.ref f), none, none] h = .ok (.ref h1.length) (h1 ++ [.dct (Lof (1 + n1) none none none)]) := by
    have hlst : xLst aNil [some (.ref f), none, none] h1 = .ok (.lst []) h1 := by
      show (if ([] : List PV).length ≤ sizeLine then Rs.ok (PV.lst []) h1 else .bad) = _
      exact if_pos (Nat.zero_le _)
    have ha : xOp gAdd (xC (.int 1)) (xCall r_law_take (aCons (xVar 0) (aCons (xC (.int 8)) (aNil)))) [some (.ref f), none, none] h = .ok (.int (1 + n1)) h1 := by
      show (Rs.bind (xCall r_law_take (aCons (xVar 0) (aCons (xC (.int 8)) (aNil))) [some (.ref f), none, none] h) fun b h2 => gAdd (.int 1) b h2) = _
      rw [t1]
      rfl
    have hp : prL [(xC (.str "slots"), xOp gAdd (xC (.int 1)) (xCall r_law_take (aCons (xVar 0) (aCons (xC (.int 8)) (aNil))))), (xC (.str "peak"), xLst (aNil)), (xC (.str "transfer"), xC .non), (xC (.str "cap"), xC .non), (xC (.str "bonus"), xC .non)] [some (.ref f), none, none] h = .ok [(.inr "slots", .int (1 + n1)), (.inr "peak", .lst []), (.inr "transfer", .non), (.inr "cap", .non), (.inr "bonus", .non)] h1 := by
      simp only [prL, xC, ha, hlst, keyV]
    unfold g1x
    rw [disp_ok (by show 5 ≤ 15; decide) hp, put0]
    rfl
  generalize hD : h1.length = D at e1
  have hH1 : (h1 ++ [Ob.dct (Lof (1 + n1) none none none)])[D]? = some (.dct (Lof (1 + n1) none none none)) := by rw [← hD]; simp
  have FH1 := F1.app [Ob.dct (Lof (1 + n1) none none none)]
  have hfD : D ≠ f := by omega
  generalize (h1 ++ [Ob.dct (Lof (1 + n1) none none none)]) = H1 at e1 hH1 FH1
  -- cap, or transfer and bonus
  have key : ∃ h3 t c b, sIf g2c (gU g2a) (gU g2b) [some (.ref f), some (.ref D), none] H1 = .nx [some (.ref f), some (.ref D), none] h3 ∧ h3[D]? = some (.dct (Lof (1 + n1) t c b)) ∧ Fd h3 f ∧ (∀ q, t = some q → (0 ≤ q.1 ∧ q.1 ≤ 4) ∧ Sm q.2) ∧ (∀ k, c = some k → Sm k) ∧ (∀ k, b = some k → 2 ≤ k ∧ k ≤ 4) := by
    obtain ⟨n2, h2, ⟨z2, z2'⟩, t2, F2, O2⟩ := take_ok (st := [some (.ref f), some (.ref D), none]) (i := 0) FH1 rfl (m := 2) (by decide) (by decide)
    have hD2 : h2[D]? = some (.dct (Lof (1 + n1) none none none)) := by rw [O2.2 D hfD]; exact hH1
    have hlt2 := (List.getElem?_eq_some_iff.mp hD2).1
    have hc : g2c [some (.ref f), some (.ref D), none] H1 = .ok (decide (n2 = 0)) h2 := by
      have he := eqd_int false n2 0 h2
      show (Rs.bind (Rs.bind (xCall r_law_take (aCons (xVar 0) (aCons (xC (.int 2)) (aNil))) [some (.ref f), some (.ref D), none] H1) fun a h1 => gEqD false a (.int 0) h1) fun v h1 => match v with | .bl b => Rs.ok b h1 | _ => .bad) = _
      rw [t2, Rs.bind_ok, he]
      rfl
    by_cases hn : n2 = 0
    · rw [decide_eq_true hn] at hc
      obtain ⟨n3, h3, ⟨z3, z3'⟩, t3, F3, O3⟩ := take_ok (st := [some (.ref f), some (.ref D), none]) (i := 0) F2 rfl (m := 13) (by decide) (by decide)
      have hD3 : h3[D]? = some (.dct (Lof (1 + n1) none none none)) := by rw [O3.2 D hfD]; exact hD2
      have ea : g2a [some (.ref f), some (.ref D), none] h2 = .ok (.dct [(.str "cap", .int (8 + n3))]) h3 := by
        have ha : xOp gAdd (xC (.int 8)) (xCall r_law_take (aCons (xVar 0) (aCons (xC (.int 13)) (aNil)))) [some (.ref f), some (.ref D), none] h2 = .ok (.int (8 + n3)) h3 := by
          show (Rs.bind (xCall r_law_take (aCons (xVar 0) (aCons (xC (.int 13)) (aNil))) [some (.ref f), some (.ref D), none] h2) fun b h2 => gAdd (.int 8) b h2) = _
          rw [t3]
          rfl
        have hp : prL [(xC (.str "cap"), xOp gAdd (xC (.int 8)) (xCall r_law_take (aCons (xVar 0) (aCons (xC (.int 13)) (aNil)))))] [some (.ref f), some (.ref D), none] h2 = .ok [(.inr "cap", .int (8 + n3))] h3 := by
          simp only [prL, xC, ha, keyV]
        unfold g2a
        rw [disp_ok (by show 1 ≤ 15; decide) hp]
        rfl
      have hu := upd_ok (st := [some (.ref f), some (.ref D), none]) rfl ⟨_, hD2⟩ ea hD3 (ps := [(.inr "cap", .int (8 + n3))]) rfl (by show 6 ≤ 1000; decide)
      rw [put1] at hu
      exact ⟨_, none, some (8 + n3), none, by rw [sIf_t hc]; exact hu, List.getElem?_set_self (List.getElem?_eq_some_iff.mp hD3).1, F3.set hfD _, fun q e => (by cases e), fun k e => by cases e; exact ⟨by omega, by omega⟩, fun k e => (by cases e)⟩
    · rw [decide_eq_false hn] at hc
      obtain ⟨n3, h3, ⟨z3, z3'⟩, t3, F3, O3⟩ := take_ok (st := [some (.ref f), some (.ref D), none]) (i := 0) F2 rfl (m := 5) (by decide) (by decide)
      obtain ⟨n4, h4, ⟨z4, z4'⟩, t4, F4, O4⟩ := take_ok (st := [some (.ref f), some (.ref D), none]) (i := 0) F3 rfl (m := 3) (by decide) (by decide)
      have hD4 : h4[D]? = some (.dct (Lof (1 + n1) none none none)) := by rw [O4.2 D hfD, O3.2 D hfD]; exact hD2
      have ea : g2b [some (.ref f), some (.ref D), none] h2 = .ok (.dct [(.str "transfer", .tup [.int n3, .int 1]), (.str "bonus", .int (2 + n4))]) h4 := by
        have ha : xOp gAdd (xC (.int 2)) (xCall r_law_take (aCons (xVar 0) (aCons (xC (.int 3)) (aNil)))) [some (.ref f), some (.ref D), none] h3 = .ok (.int (2 + n4)) h4 := by
          show (Rs.bind (xCall r_law_take (aCons (xVar 0) (aCons (xC (.int 3)) (aNil))) [some (.ref f), some (.ref D), none] h3) fun b h2 => gAdd (.int 2) b h2) = _
          rw [t4]
          rfl
        have hb : xTup (aCons (xCall r_law_take (aCons (xVar 0) (aCons (xC (.int 5)) (aNil)))) (aCons (xC (.int 1)) (aNil))) [some (.ref f), some (.ref D), none] h2 = .ok (.tup [.int n3, .int 1]) h3 := by
          unfold xTup
          rw [show aCons (xCall r_law_take (aCons (xVar 0) (aCons (xC (.int 5)) (aNil)))) (aCons (xC (.int 1)) (aNil)) [some (.ref f), some (.ref D), none] h2 = .ok [.int n3, .int 1] h3 by
            rw [show aCons (xCall r_law_take (aCons (xVar 0) (aCons (xC (.int 5)) (aNil)))) (aCons (xC (.int 1)) (aNil)) [some (.ref f), some (.ref D), none] h2 = (xCall r_law_take (aCons (xVar 0) (aCons (xC (.int 5)) (aNil))) [some (.ref f), some (.ref D), none] h2).bind fun v h1 => Rs.ok [v, .int 1] h1 from rfl, t3]
            rfl, Rs.bind_ok, if_pos (by rw [sizeLine_eq]; show 2 ≤ 16777216; omega)]
        have hp : prL [(xC (.str "transfer"), xTup (aCons (xCall r_law_take (aCons (xVar 0) (aCons (xC (.int 5)) (aNil)))) (aCons (xC (.int 1)) (aNil)))), (xC (.str "bonus"), xOp gAdd (xC (.int 2)) (xCall r_law_take (aCons (xVar 0) (aCons (xC (.int 3)) (aNil)))))] [some (.ref f), some (.ref D), none] h2 = .ok [(.inr "transfer", .tup [.int n3, .int 1]), (.inr "bonus", .int (2 + n4))] h4 := by
          exact prL_cons rfl hb rfl (prL_cons rfl ha rfl rfl)
        unfold g2b
        rw [disp_ok (by show 2 ≤ 15; decide) hp]
        rfl
      have hu := upd_ok (st := [some (.ref f), some (.ref D), none]) rfl ⟨_, hD2⟩ ea hD4 (ps := [(.inr "transfer", .tup [.int n3, .int 1]), (.inr "bonus", .int (2 + n4))]) rfl (by show 7 ≤ 1000; decide)
      rw [put2'] at hu
      exact ⟨_, some (n3, 1), none, some (2 + n4), by rw [sIf_f hc]; exact hu, List.getElem?_set_self (List.getElem?_eq_some_iff.mp hD4).1, F4.set hfD _, fun q e => (by cases e; exact ⟨⟨by omega, by show n3 ≤ 4; omega⟩, (show Sm 1 by decide)⟩), fun k e => (by cases e), fun k e => (by cases e; exact ⟨by omega, by omega⟩)⟩
  obtain ⟨h3, t, c, b, k2, hD3, F3, b1, b2, b3⟩ := key
  -- the kinds
  have st3 : ∀ v : PV, [some (PV.ref f), some (.ref D), some v][0]? = some (some (.ref f)) := fun _ => rfl
  obtain ⟨pv, h4, hpv, t5, F4, O4⟩ := run_pick F3 (l := [.int 1, .int 2, .int 3]) (by simp) (by show 3 ≤ 1000; decide)
  obtain ⟨p, rfl, hp1, hp3⟩ : ∃ p : Int, pv = .int p ∧ 1 ≤ p ∧ p ≤ 3 := by
    simp only [List.mem_cons, List.not_mem_nil, or_false] at hpv
    rcases hpv with rfl | rfl | rfl
    · exact ⟨1, rfl, by decide, by decide⟩
    · exact ⟨2, rfl, by decide, by decide⟩
    · exact ⟨3, rfl, by decide, by decide⟩
  have k3 : sSet 2 g3x [some (.ref f), some (.ref D), none] h3 = .nx [some (.ref f), some (.ref D), some (.int p)] h4 := by
    refine sSet_ok ?_
    have hl : aCons (xVar 0) (aCons (xLst (aCons (xC (.int 1)) (aCons (xC (.int 2)) (aCons (xC (.int 3)) (aNil))))) (aNil)) [some (.ref f), some (.ref D), none] h3 = .ok [.ref f, .lst [.int 1, .int 2, .int 3]] h3 := by
      have h1 : xLst (aCons (xC (.int 1)) (aCons (xC (.int 2)) (aCons (xC (.int 3)) (aNil)))) [some (.ref f), some (.ref D), none] h3 = .ok (.lst [.int 1, .int 2, .int 3]) h3 := by
        show (if [PV.int 1, .int 2, .int 3].length ≤ sizeLine then Rs.ok (PV.lst [.int 1, .int 2, .int 3]) h3 else .bad) = _
        exact if_pos (by rw [sizeLine_eq]; show 3 ≤ 16777216; omega)
      show (Rs.ok (PV.ref f) h3).bind (fun v h1 => ((xLst (aCons (xC (.int 1)) (aCons (xC (.int 2)) (aCons (xC (.int 3)) (aNil)))) [some (.ref f), some (.ref D), none] h1).bind fun v h2 => Rs.ok [v] h2).bind fun vs h2 => Rs.ok (v :: vs) h2) = _
      rw [Rs.bind_ok, h1]
      rfl
    unfold g3x xCall
    rw [hl, Rs.bind_ok, t5]
  have hD4 : h4[D]? = some (.dct (Lof (1 + n1) t c b)) := by rw [O4.2 D hfD]; exact hD3
  obtain ⟨n5, h5, ⟨z5, z5'⟩, t6, F5, O5⟩ := take_ok (st := [some (.ref f), some (.ref D), some (.int p)]) (i := 0) F4 rfl (m := 5) (by decide) (by decide)
  obtain ⟨n6, h6, ⟨z6, z6'⟩, t7, F6, O6⟩ := take_ok (st := [some (.ref f), some (.ref D), some (.int p)]) (i := 0) F5 rfl (m := 2) (by decide) (by decide)
  have hD6 : h6[D]? = some (.dct (Lof (1 + n1) t c b)) := by rw [O6.2 D hfD, O5.2 D hfD]; exact hD4
  have key2 : ∃ rides : List (Nat × Int × Int), g4k [some (.ref f), some (.ref D), some (.int p)] h4 = .ok (.lst (rides.map kindP)) h6 ∧ rides ≠ [] ∧ rides.length ≤ 3 ∧ (∀ q ∈ rides, 97 ≤ q.1 ∧ q.1 ≤ 122 ∧ Sm q.2.1 ∧ Sm q.2.2) ∧ (rides.map (·.1)).Pairwise (· < ·) := by
    have hA : ("a" : Str) = ch 97 ∧ ("b" : Str) = ch 98 := by decide +kernel
    have e1 : xLst (aCons (xTup (aCons (xC (.str "a")) (aCons (xVar 2) (aCons (xC (.int 0)) (aNil))))) (aNil)) [some (.ref f), some (.ref D), some (.int p)] h4 = .ok (.lst [kindP (97, p, 0)]) h4 := by
      rw [hA.1]
      have h1 : xTup (aCons (xC (.str (ch 97))) (aCons (xVar 2) (aCons (xC (.int 0)) (aNil)))) [some (.ref f), some (.ref D), some (.int p)] h4 = .ok (kindP (97, p, 0)) h4 := by
        show (if [PV.str (ch 97), .int p, .int 0].length ≤ sizeLine then Rs.ok (PV.tup [.str (ch 97), .int p, .int 0]) h4 else .bad) = _
        exact if_pos (by rw [sizeLine_eq]; show 3 ≤ 16777216; omega)
      unfold xLst aCons aNil
      unfold aCons aNil at h1
      rw [h1, Rs.bind_ok, Rs.bind_ok, Rs.bind_ok]
      exact if_pos (by rw [sizeLine_eq]; show 1 ≤ 16777216; omega)
    have e2 : xLst (aCons (xTup (aCons (xC (.str "b")) (aCons (xOp gAdd (xC (.int 1)) (xCall r_law_take (aCons (xVar 0) (aCons (xC (.int 5)) (aNil))))) (aCons (xC (.int 7)) (aNil))))) (aNil)) [some (.ref f), some (.ref D), some (.int p)] h4 = .ok (.lst [kindP (98, 1 + n5, 7)]) h5 := by
      rw [hA.2]
      have h0 : xOp gAdd (xC (.int 1)) (xCall r_law_take (aCons (xVar 0) (aCons (xC (.int 5)) (aNil)))) [some (.ref f), some (.ref D), some (.int p)] h4 = .ok (.int (1 + n5)) h5 := by
        show (Rs.bind (xCall r_law_take (aCons (xVar 0) (aCons (xC (.int 5)) (aNil))) [some (.ref f), some (.ref D), some (.int p)] h4) fun b h2 => gAdd (.int 1) b h2) = _
        rw [t6]
        rfl
      generalize xOp gAdd (xC (.int 1)) (xCall r_law_take (aCons (xVar 0) (aCons (xC (.int 5)) (aNil)))) = ex at h0
      have h1 : xTup (aCons (xC (.str (ch 98))) (aCons ex (aCons (xC (.int 7)) (aNil)))) [some (.ref f), some (.ref D), some (.int p)] h4 = .ok (kindP (98, 1 + n5, 7)) h5 := by
        unfold xTup aCons aNil xC
        rw [Rs.bind_ok, h0, Rs.bind_ok, Rs.bind_ok, Rs.bind_ok, Rs.bind_ok, Rs.bind_ok, Rs.bind_ok]
        exact if_pos (by rw [sizeLine_eq]; show 3 ≤ 16777216; omega)
      generalize xTup (aCons (xC (.str (ch 98))) (aCons ex (aCons (xC (.int 7)) (aNil)))) = ey at h1
      unfold xLst aCons aNil
      rw [h1, Rs.bind_ok, Rs.bind_ok, Rs.bind_ok]
      exact if_pos (by rw [sizeLine_eq]; show 1 ≤ 16777216; omega)
    have e3 : pSome (xCall r_law_take (aCons (xVar 0) (aCons (xC (.int 2)) (aNil)))) [some (.ref f), some (.ref D), some (.int p)] h5 = .ok (some n6) h6 := by
      unfold pSome
      rw [t7]
      rfl
    have e4 : xSl gSlL (xLst (aCons (xTup (aCons (xC (.str "b")) (aCons (xOp gAdd (xC (.int 1)) (xCall r_law_take (aCons (xVar 0) (aCons (xC (.int 5)) (aNil))))) (aCons (xC (.int 7)) (aNil))))) (aNil))) (pNone) (pSome (xCall r_law_take (aCons (xVar 0) (aCons (xC (.int 2)) (aNil))))) [some (.ref f), some (.ref D), some (.int p)] h4 = .ok (.lst ([kindP (98, 1 + n5, 7)].take n6.toNat)) h6 := by
      unfold xSl
      rw [e2, Rs.bind_ok]
      show (Rs.ok (none : Option Int) h5).bind (fun a h2 => (pSome _ _ h2).bind fun b h3 => gSlL _ a b h3) = _
      rw [Rs.bind_ok, e3, Rs.bind_ok]
      have := cut_to [kindP (98, 1 + n5, 7)] n6.toNat
      rw [show ((n6.toNat : Nat) : Int) = n6 by omega] at this
      show Rs.ok (PV.lst (cutP [kindP (98, 1 + n5, 7)] none (some n6))) h6 = _
      rw [this]
    have hfin : ∀ l : List PV, l.length ≤ 1 → gCatL (.lst [kindP (97, p, 0)]) (.lst l) h6 = .ok (.lst ([kindP (97, p, 0)] ++ l)) h6 := fun l hl => by
      unfold gCatL asLm
      dsimp only
      rw [if_pos (by rw [sizeLine_eq]; simp only [List.length_cons, List.length_nil]; omega)]
    have hall : g4k [some (.ref f), some (.ref D), some (.int p)] h4 = .ok (.lst ([kindP (97, p, 0)] ++ [kindP (98, 1 + n5, 7)].take n6.toNat)) h6 := by
      exact (xOp_ok e1 e4).trans (hfin _ (by rw [List.length_take]; exact Nat.min_le_right _ _))
    have h61 : n6 = 0 ∨ n6 = 1 := by omega
    rcases h61 with rfl | rfl
    · refine ⟨[(97, p, 0)], hall, by simp, (by simp), fun q hq => ?_, by simp⟩
      rw [List.mem_singleton.mp hq]
      exact ⟨(by show 97 ≤ 97; decide), (by show 97 ≤ 122; decide), ⟨by show 0 ≤ p; omega, by show p ≤ 20; omega⟩, (show Sm 0 by decide)⟩
    · refine ⟨[(97, p, 0), (98, 1 + n5, 7)], hall, by simp, (by simp), fun q hq => ?_, by simp⟩
      simp only [List.mem_cons, List.not_mem_nil, or_false] at hq
      rcases hq with rfl | rfl
      · exact ⟨(by show 97 ≤ 97; decide), (by show 97 ≤ 122; decide), ⟨by show 0 ≤ p; omega, by show p ≤ 20; omega⟩, (show Sm 0 by decide)⟩
      · exact ⟨(by show 97 ≤ 98; decide), (by show 98 ≤ 122; decide), ⟨by show 0 ≤ 1 + n5; omega, by show 1 + n5 ≤ 20; omega⟩, (show Sm 7 by decide)⟩
  obtain ⟨rides, e4, r1, r2, r3, r4⟩ := key2
  have ek : xDisp false [(xC (.str "kinds"), g4k)] [some (.ref f), some (.ref D), some (.int p)] h4 = .ok (.dct [(.str "kinds", .lst (rides.map kindP))]) h6 := by
    have hp : prL [(xC (.str "kinds"), g4k)] [some (.ref f), some (.ref D), some (.int p)] h4 = .ok [(.inr "kinds", .lst (rides.map kindP))] h6 := by
      simp only [prL, xC, e4, keyV]
    rw [disp_ok (by show 1 ≤ 15; decide) hp]
    rfl
  have k4 := upd_ok (st := [some (.ref f), some (.ref D), some (.int p)]) rfl ⟨_, hD4⟩ ek hD6 (ps := [(.inr "kinds", .lst (rides.map kindP))]) rfl (by show 6 ≤ 1000; decide)
  rw [put3] at k4
  refine ⟨⟨1 + n1, none, rides, t, c, b⟩, D, _, ⟨⟨by show 1 ≤ 1 + n1; omega, by show 1 + n1 ≤ 8; omega⟩, fun q e => (by cases e), r1, r2, r3, r4, b1, b2, b3⟩, ?_, List.getElem?_set_self (List.getElem?_eq_some_iff.mp hD6).1, F6.set hfD _⟩
  rw [big_def]
  refine runF_ret rfl ?_
  show sSeq _ _ [some (.ref f), none, none] h = _
  rw [sSeq_nx (sSet_ok e1)]
  show sSeq _ _ [some (.ref f), some (.ref D), none] H1 = _
  rw [sSeq_nx k2, sSeq_nx k3, sSeq_nx k4]
  rfl
end TR

set_option Elab.async false
set_option linter.all false
set_option maxRecDepth 100000
set_option maxHeartbeats 4000000
namespace TR
open PySem PySem.Spec L2
open SX (S)

def y5 : Ex := xCall gLen (aCons (xCall r_law_states (aCons (xVar 4) (aCons (xC (.int 100)) (aNil)))) (aNil))
def tx : Ex := xCall r_law_text (aCons (xVar 4) (aNil))
def yA : Ex := xCall r_law_large (aCons tx (aNil))
def yB : Ex := xIf (bOf (xOp gGt (xVar 5) (xC (.int 100)))) (xC (.int 100)) (xC .non)
def yC : Ex := xCall gLen (aCons (xCall r_states (aCons (xCMeth 3 r_System_parse (aCons tx (aNil))) (aNil))) (aNil))
def c1 : Eb := bOf (xOp (gEqD true) yA yB)
def c2 : Eb := bAnd (bOf (xOp gLe (xVar 5) (xC (.int 100)))) (bOf (xOp (gEqD true) yC (xVar 5)))
def bT : Sx := sSeq (sSet 4 (xCall r_law_big (aCons (xVar 2) (aNil)))) (sSeq (sSet 5 y5) (sSeq (sIf c1 (sRet (xC (.bl false))) (sNext)) (sIf c2 (sRet (xC (.bl false))) (sNext))))
def cA : Eb := bOf (xOp (gIsN true) (xCall r_law_large (aCons (xC (.str "slots 5\nride a 1 1\ncap 19")) (aNil))) (xC .non))
def cB : Eb := bOf (xOp (gEqD true) (xCall r_law_large (aCons (xC (.str "slots 5\nride a 1 1\ncap 20")) (aNil))) (xC (.int 100)))
def bO : Sx := sSeq (sSet 2 (xCall r_law_feed (aCons (xVar 0) (aCons (xVar 1) (aNil))))) (sSeq (sFor (iRange1 (aCons (xC (.int 5)) (aNil))) (.nm 3) bT) (sSeq (sIf cA (sRet (xC (.bl false))) (sNext)) (sIf cB (sRet (xC (.bl false))) (sNext))))
def nF : Ea := aCons (xCall gMax2 (aCons (xC (.int 2)) (aCons (xCall gMin2 (aCons (xC (.int 3)) (aCons (xCall gLen (aCons (xVar 0) (aNil))) (aNil)))) (aNil)))) (aNil)
theorem law_def : r_law = runF 1 6 (sSeq (sFor (iRange1 nF) (.nm 1) bO) (sRet (xC (.bl true)))) := rfl
theorem call1 {g : List PV → Hh → Rs PV} {fe : Ex} {st : Sl} {h h1 : Hh} {v : PV} (e : fe st h = .ok v h1) : xCall g (aCons fe aNil) st h = g [v] h1 := by
  unfold xCall aCons aNil
  rw [e]
  rfl
theorem cmeth1 {c : Nat} {g : List PV → Hh → Rs PV} {fe : Ex} {st : Sl} {h h1 : Hh} {v : PV} (e : fe st h = .ok v h1) : xCMeth c g (aCons fe aNil) st h = g [.cls c, v] h1 := by
  unfold xCMeth aCons aNil
  rw [e]
  rfl
theorem bOf_ok {f : Ex} {st : Sl} {h h1 : Hh} {b : Bool} (e : f st h = .ok (.bl b) h1) : bOf f st h = .ok b h1 := by
  unfold bOf
  rw [e]
  rfl
theorem turn6 {h : Hh} {f : Nat} (F : Fd h f) (s0 s1 s3 s4 s5 : Option PV) : ∃ h' b4 b5', bT [s0, s1, some (.ref f), s3, s4, s5] h = .nx [s0, s1, some (.ref f), s3, b4, b5'] h' ∧ Fd h' f := by
  obtain ⟨d, n, h1, W, e1, Fa, F1⟩ := run_big F
  have hsl := W.sl
  obtain ⟨g, hg⟩ := reach_total (s := d.sys) 200 0 [newC] (by omega) (by omega)
  have hlets : ((100 : Int) + (d.sys.lets.length : Nat)) < 1000000 := by
    have := W.rlen
    unfold Sys.lets SD.sys
    simp only [List.length_append, List.length_map, List.length_cons, List.length_nil]
    omega
  have e2 := run_lstates Fa W.fit hsl.1 (fun b e => (W.bn b e).1) 100 hlets hg (by omega)
  have k1 : sSet 4 (xCall r_law_big (aCons (xVar 2) (aNil))) [s0, s1, some (.ref f), s3, s4, s5] h = .nx [s0, s1, some (.ref f), s3, some (.ref n), s5] h1 := sSet_ok ((call1 (v := .ref f) (h1 := h) rfl).trans e1)
  have k2 : sSet 5 y5 [s0, s1, some (.ref f), s3, some (.ref n), s5] h1 = .nx [s0, s1, some (.ref f), s3, some (.ref n), some (.int (g.length : Nat))] (h1 ++ [.gone, .dcn (kD g)]) := by
    refine sSet_ok ?_
    have e3 : xCall r_law_states (aCons (xVar 4) (aCons (xC (.int 100)) (aNil))) [s0, s1, some (.ref f), s3, some (.ref n), s5] h1 = .ok (.lst (g.map Cd.pv)) (h1 ++ [.gone, .dcn (kD g)]) := e2
    refine (call1 e3).trans ?_
    show Rs.ok (PV.int ((g.map Cd.pv).length : Nat)) _ = _
    rw [List.length_map]
  have F2 := F1.app [.gone, .dcn (kD g)]
  have Fa2 : Fare (h1 ++ [.gone, .dcn (kD g)]) n d := get_app Fa _
  generalize h1 ++ [Ob.gone, .dcn (kD g)] = h2 at k2 F2 Fa2
  obtain ⟨ls, e4⟩ := run_ltext Fa2 W
  have F3 := F2.app [.lst ls]
  have Fa3 : Fare (h2 ++ [.lst ls]) n d := get_app Fa2 _
  generalize h2 ++ [Ob.lst ls] = h3 at e4 F3 Fa3
  have e5 := run_large W h3 hg (by omega)
  have F4 := F3.app [.gone, .ins 3 d.sys.fs, .gone, .dcn (kD g)]
  have Fa4 : Fare (h3 ++ [.gone, .ins 3 d.sys.fs, .gone, .dcn (kD g)]) n d := get_app Fa3 _
  generalize h3 ++ [Ob.gone, .ins 3 d.sys.fs, .gone, .dcn (kD g)] = h4 at e5 F4 Fa4
  have eA : yA [s0, s1, some (.ref f), s3, some (.ref n), some (.int (g.length : Nat))] h2 = .ok (if 100 < g.length then .int 100 else .non) h4 := by
    have e6 : tx [s0, s1, some (.ref f), s3, some (.ref n), some (.int (g.length : Nat))] h2 = .ok (.str (S (textL d.rowsW))) h3 := e4
    exact (call1 e6).trans e5
  have eB : ∀ hh : Hh, yB [s0, s1, some (.ref f), s3, some (.ref n), some (.int (g.length : Nat))] hh = .ok (if 100 < g.length then .int 100 else .non) hh := fun hh => by
    unfold yB
    by_cases hc : 100 < g.length
    · have hc2 : (100 : Int) < (g.length : Nat) := by omega
      rw [if_pos hc]
      simp only [runF, startS, sSeq, sSet, sRet, sRetN, sIf, sDrop, sAsg, sNext, sNever, sAug, asg_nm, asg_2, asg_3, asg_4, xVar, xC, aNil, aCons, xOp, xCall, xMt, xTup, xLst, xIf, xAnd, xOr, xNot, bOf, bTru, bAnd, bOr, bNot, bYes, gI2, gAdd, gSub, gLt, gLe, gGt, gGe, gIxT, gLen, gMin2, gMax2, gIsN, Rs.bind_ok, Rs.bind_exc, Rs.toS_ok, Rs.toS_exc, List.map_cons, List.map_nil, List.length_cons, List.length_nil, List.replicate, List.cons_append, List.nil_append, List.getElem?_cons_zero, List.getElem?_cons_succ, List.getElem?_nil, List.set_cons_zero, List.set_cons_succ, Nat.reduceAdd, Nat.reduceSub, Nat.reduceEqDiff, if_true, if_false, if_pos rfl, reduceIte, decide_true, decide_false, Bool.not_true, Bool.not_false, sizeLine_eq, Nat.reduceLeDiff, eqd_int, xFld, Bool.true_eq_false, Bool.false_eq_true, ite_toS, ite_bind, hc2]
    · have hc2 : ¬ (100 : Int) < (g.length : Nat) := by omega
      rw [if_neg hc]
      simp only [runF, startS, sSeq, sSet, sRet, sRetN, sIf, sDrop, sAsg, sNext, sNever, sAug, asg_nm, asg_2, asg_3, asg_4, xVar, xC, aNil, aCons, xOp, xCall, xMt, xTup, xLst, xIf, xAnd, xOr, xNot, bOf, bTru, bAnd, bOr, bNot, bYes, gI2, gAdd, gSub, gLt, gLe, gGt, gGe, gIxT, gLen, gMin2, gMax2, gIsN, Rs.bind_ok, Rs.bind_exc, Rs.toS_ok, Rs.toS_exc, List.map_cons, List.map_nil, List.length_cons, List.length_nil, List.replicate, List.cons_append, List.nil_append, List.getElem?_cons_zero, List.getElem?_cons_succ, List.getElem?_nil, List.set_cons_zero, List.set_cons_succ, Nat.reduceAdd, Nat.reduceSub, Nat.reduceEqDiff, if_true, if_false, if_pos rfl, reduceIte, decide_true, decide_false, Bool.not_true, Bool.not_false, sizeLine_eq, Nat.reduceLeDiff, eqd_int, xFld, Bool.true_eq_false, Bool.false_eq_true, ite_toS, ite_bind, hc2]
  have k3 : c1 [s0, s1, some (.ref f), s3, some (.ref n), some (.int (g.length : Nat))] h2 = .ok false h4 := by
    refine bOf_ok ((xOp_ok eA (eB h4)).trans ?_)
    by_cases hc : 100 < g.length
    · rw [if_pos hc]
      have := eqd_int true 100 100 h4
      rw [decide_eq_true rfl] at this
      exact this
    · rw [if_neg hc]
      rfl
  have hend : ∃ h', c2 [s0, s1, some (.ref f), s3, some (.ref n), some (.int (g.length : Nat))] h4 = .ok false h' ∧ Fd h' f := by
    by_cases hc : 100 < g.length
    · have hc2 : ¬ ((g.length : Nat) : Int) ≤ 100 := by omega
      refine ⟨h4, ?_, F4⟩
      unfold c2
      have q : bOf (xOp gLe (xVar 5) (xC (.int 100))) [s0, s1, some (.ref f), s3, some (.ref n), some (.int (g.length : Nat))] h4 = .ok false h4 := by
        simp only [runF, startS, sSeq, sSet, sRet, sRetN, sIf, sDrop, sAsg, sNext, sNever, sAug, asg_nm, asg_2, asg_3, asg_4, xVar, xC, aNil, aCons, xOp, xCall, xMt, xTup, xLst, xIf, xAnd, xOr, xNot, bOf, bTru, bAnd, bOr, bNot, bYes, gI2, gAdd, gSub, gLt, gLe, gGt, gGe, gIxT, gLen, gMin2, gMax2, gIsN, Rs.bind_ok, Rs.bind_exc, Rs.toS_ok, Rs.toS_exc, List.map_cons, List.map_nil, List.length_cons, List.length_nil, List.replicate, List.cons_append, List.nil_append, List.getElem?_cons_zero, List.getElem?_cons_succ, List.getElem?_nil, List.set_cons_zero, List.set_cons_succ, Nat.reduceAdd, Nat.reduceSub, Nat.reduceEqDiff, if_true, if_false, if_pos rfl, reduceIte, decide_true, decide_false, Bool.not_true, Bool.not_false, sizeLine_eq, Nat.reduceLeDiff, eqd_int, xFld, Bool.true_eq_false, Bool.false_eq_true, ite_toS, ite_bind, hc2]
      unfold bAnd
      rw [q]
      rfl
    · have hc2 : ((g.length : Nat) : Int) ≤ 100 := by omega
      obtain ⟨ls2, e7⟩ := run_ltext Fa4 W
      have F5 := F4.app [.lst ls2]
      generalize h4 ++ [Ob.lst ls2] = h5 at e7 F5
      have e8 := run_parse W h5 hg (by omega) (by omega)
      have hsys : IsSys (h5 ++ [.gone, .ins 3 d.sys.fs, .gone, .dcn (kD g)]) (h5.length + 1) d.sys := by
        unfold IsSys
        rw [List.getElem?_append_right (by omega), show h5.length + 1 - h5.length = 1 by omega]
        rfl
      have F6 := F5.app [.gone, .ins 3 d.sys.fs, .gone, .dcn (kD g)]
      generalize h5 ++ [Ob.gone, .ins 3 d.sys.fs, .gone, .dcn (kD g)] = h6 at e8 hsys F6
      have e9 := run_reached hsys 100 hlets (SD.lets_ok W.fit) hg (by omega)
      refine ⟨h6 ++ [.gone, .dcn (kD g)], ?_, F6.app _⟩
      have q : bOf (xOp gLe (xVar 5) (xC (.int 100))) [s0, s1, some (.ref f), s3, some (.ref n), some (.int (g.length : Nat))] h4 = .ok true h4 := by
        simp only [runF, startS, sSeq, sSet, sRet, sRetN, sIf, sDrop, sAsg, sNext, sNever, sAug, asg_nm, asg_2, asg_3, asg_4, xVar, xC, aNil, aCons, xOp, xCall, xMt, xTup, xLst, xIf, xAnd, xOr, xNot, bOf, bTru, bAnd, bOr, bNot, bYes, gI2, gAdd, gSub, gLt, gLe, gGt, gGe, gIxT, gLen, gMin2, gMax2, gIsN, Rs.bind_ok, Rs.bind_exc, Rs.toS_ok, Rs.toS_exc, List.map_cons, List.map_nil, List.length_cons, List.length_nil, List.replicate, List.cons_append, List.nil_append, List.getElem?_cons_zero, List.getElem?_cons_succ, List.getElem?_nil, List.set_cons_zero, List.set_cons_succ, Nat.reduceAdd, Nat.reduceSub, Nat.reduceEqDiff, if_true, if_false, if_pos rfl, reduceIte, decide_true, decide_false, Bool.not_true, Bool.not_false, sizeLine_eq, Nat.reduceLeDiff, eqd_int, xFld, Bool.true_eq_false, Bool.false_eq_true, ite_toS, ite_bind, hc2]
      have eC : yC [s0, s1, some (.ref f), s3, some (.ref n), some (.int (g.length : Nat))] h4 = .ok (.int (g.length : Nat)) (h6 ++ [.gone, .dcn (kD g)]) := by
        have x1 : tx [s0, s1, some (.ref f), s3, some (.ref n), some (.int (g.length : Nat))] h4 = .ok (.str (S (textL d.rowsW))) h5 := e7
        have x2 : xCMeth 3 r_System_parse (aCons tx (aNil)) [s0, s1, some (.ref f), s3, some (.ref n), some (.int (g.length : Nat))] h4 = .ok (.ref (h5.length + 1)) h6 := (cmeth1 x1).trans e8
        have x3 : r_states [.ref (h5.length + 1)] h6 = .ok (.lst (g.map Cd.pv)) (h6 ++ [.gone, .dcn (kD g)]) := by
          unfold r_states
          simp only [Rs.bind_ok, Rs.bind_exc, Rs.toS_ok, Rs.toS_exc, List.map_cons, List.map_nil, List.length_cons, List.length_nil, List.replicate, List.cons_append, List.nil_append, List.getElem?_cons_zero, List.getElem?_cons_succ, List.getElem?_nil, List.set_cons_zero, List.set_cons_succ, Nat.reduceAdd, Nat.reduceSub, Nat.reduceEqDiff, if_true, if_false, if_pos rfl, reduceIte, runF, startS, sRet, xCall, aCons, xVar, xC, aNil, e9]
        refine (call1 ((call1 x2).trans x3)).trans ?_
        show Rs.ok (PV.int ((g.map Cd.pv).length : Nat)) _ = _
        rw [List.length_map]
      have q2 : bOf (xOp (gEqD true) yC (xVar 5)) [s0, s1, some (.ref f), s3, some (.ref n), some (.int (g.length : Nat))] h4 = .ok false (h6 ++ [.gone, .dcn (kD g)]) := by
        refine bOf_ok ((xOp_ok eC (b := .int (g.length : Nat)) rfl).trans ?_)
        have := eqd_int true (g.length : Nat) (g.length : Nat) (h6 ++ [.gone, .dcn (kD g)])
        rw [decide_eq_true rfl] at this
        exact this
      unfold c2 bAnd
      rw [q, Rs.bind_ok, if_pos rfl, q2]
  obtain ⟨h', k4, F'⟩ := hend
  refine ⟨h', some (.ref n), some (.int (g.length : Nat)), ?_, F'⟩
  unfold bT
  rw [sSeq_nx k1, sSeq_nx k2]
  have k3' : sIf c1 (sRet (xC (.bl false))) (sNext) [s0, s1, some (.ref f), s3, some (.ref n), some (.int (g.length : Nat))] h2 = .nx [s0, s1, some (.ref f), s3, some (.ref n), some (.int (g.length : Nat))] h4 := sIf_f k3
  rw [sSeq_nx k3']
  exact sIf_f k4
theorem turns6 {f : Nat} : ∀ (l : List PV) {h : Hh} (F : Fd h f) (s0 s1 s3 s4 s5 : Option PV), ∃ h' b3 b4 b5', forL (.nm 3) bT l [s0, s1, some (.ref f), s3, s4, s5] h = .nx [s0, s1, some (.ref f), b3, b4, b5'] h' ∧ Fd h' f
  | [], h, F, s0, s1, s3, s4, s5 => ⟨h, s3, s4, s5, rfl, F⟩
  | v :: l, h, F, s0, s1, s3, s4, s5 => by
    obtain ⟨h1, b4, b5', e, F1⟩ := turn6 F s0 s1 (some v) s4 s5
    obtain ⟨h2, c3, c4, c5, e2, F2⟩ := turns6 l F1 s0 s1 (some v) b4 b5'
    refine ⟨h2, c3, c4, c5, ?_, F2⟩
    rw [forL, asg_nm]
    simp only [Rs.bind_ok, Rs.bind_exc, Rs.toS_ok, Rs.toS_exc, List.map_cons, List.map_nil, List.length_cons, List.length_nil, List.replicate, List.cons_append, List.nil_append, List.getElem?_cons_zero, List.getElem?_cons_succ, List.getElem?_nil, List.set_cons_zero, List.set_cons_succ, Nat.reduceAdd, Nat.reduceSub, Nat.reduceEqDiff, if_true, if_false, if_pos rfl, reduceIte, e]
    exact e2
def dK (k : Int) : SD := ⟨5, none, [(97, 1, 1)], none, some k, none⟩
theorem dK_wf : (dK 19).wfB = true ∧ (dK 20).wfB = true := by decide +kernel
end TR

set_option Elab.async false
set_option linter.all false
set_option maxRecDepth 100000
set_option maxHeartbeats 4000000
namespace TR
open PySem PySem.Spec L2
open SX (S)

def manyB (s : Sys) : Bool := match reach s 100 200 0 [newC] with
  | some g => decide (100 < g.length)
  | none => false
def fewB (s : Sys) : Bool := match reach s 100 200 0 [newC] with
  | some g => decide (g.length ≤ 100)
  | none => false
theorem dK_many : fewB (dK 19).sys = true ∧ manyB (dK 20).sys = true := by decide +kernel
theorem dK_text : ("slots 5\nride a 1 1\ncap 19" : Str) = S (textL (dK 19).rowsW) ∧ ("slots 5\nride a 1 1\ncap 20" : Str) = S (textL (dK 20).rowsW) := by decide +kernel
theorem large19 (h : Hh) : ∃ h', r_law_large [.str "slots 5\nride a 1 1\ncap 19"] h = .ok .non h' := by
  have hb := dK_many.1
  unfold fewB at hb
  split at hb
  · rename_i g hg
    have e := run_large (SD.wfB_ok dK_wf.1) h hg (by omega)
    have := of_decide_eq_true hb
    rw [if_neg (by omega)] at e
    rw [dK_text.1]
    exact ⟨_, e⟩
  · cases hb
theorem large20 (h : Hh) : ∃ h', r_law_large [.str "slots 5\nride a 1 1\ncap 20"] h = .ok (.int 100) h' := by
  have hb := dK_many.2
  unfold manyB at hb
  split at hb
  · rename_i g hg
    have e := run_large (SD.wfB_ok dK_wf.2) h hg (by omega)
    rw [if_pos (of_decide_eq_true hb)] at e
    rw [dK_text.2]
    exact ⟨_, e⟩
  · cases hb
theorem body6 {ns : List Int} {k : Nat} (hk : k < 10) (h : Hh) (s2 s3 s4 s5 : Option PV) : ∃ h' b2 b3 b4 b5', bO [some (.scr (ns.map .int)), some (.int (k : Nat)), s2, s3, s4, s5] h = .nx [some (.scr (ns.map .int)), some (.int (k : Nat)), b2, b3, b4, b5'] h' := by
  obtain ⟨a, b, e1⟩ := run_feed (ns := ns) (k := (k : Nat)) (by omega) (by omega) h
  have F : Fd (h ++ [.lst [.int a, .int b]]) h.length := ⟨a, b, by simp⟩
  have k1 : sSet 2 (xCall r_law_feed (aCons (xVar 0) (aCons (xVar 1) (aNil)))) [some (.scr (ns.map .int)), some (.int (k : Nat)), s2, s3, s4, s5] h = .nx [some (.scr (ns.map .int)), some (.int (k : Nat)), some (.ref h.length), s3, s4, s5] (h ++ [.lst [.int a, .int b]]) := sSet_ok e1
  generalize h ++ [Ob.lst [.int a, .int b]] = h1 at F k1
  have hr : iRange1 (aCons (xC (.int 5)) (aNil)) [some (.scr (ns.map .int)), some (.int (k : Nat)), some (.ref h.length), s3, s4, s5] h1 = _ := range1_ok (j := 5) rfl (by decide) (by decide)
  obtain ⟨h2, b3, b4, b5', e2, _⟩ := turns6 ((List.range' 0 (5 : Int).toNat).map fun i => PV.int (i : Nat)) F (some (.scr (ns.map .int))) (some (.int (k : Nat))) s3 s4 s5
  have k2 := (sFor_ok (t := .nm 3) (fb := bT) hr).trans e2
  obtain ⟨h3, e3⟩ := large19 h2
  have k3 : sIf cA (sRet (xC (.bl false))) (sNext) [some (.scr (ns.map .int)), some (.int (k : Nat)), some (.ref h.length), b3, b4, b5'] h2 = .nx [some (.scr (ns.map .int)), some (.int (k : Nat)), some (.ref h.length), b3, b4, b5'] h3 := by
    refine sIf_f (bOf_ok ?_)
    have e5 : xCall r_law_large (aCons (xC (.str "slots 5\nride a 1 1\ncap 19")) (aNil)) [some (.scr (ns.map .int)), some (.int (k : Nat)), some (.ref h.length), b3, b4, b5'] h2 = .ok .non h3 := (call1 (v := .str "slots 5\nride a 1 1\ncap 19") (h1 := h2) rfl).trans e3
    exact (xOp_ok e5 (b := .non) (h2 := h3) rfl).trans rfl
  obtain ⟨h4, e4⟩ := large20 h3
  have k4 : sIf cB (sRet (xC (.bl false))) (sNext) [some (.scr (ns.map .int)), some (.int (k : Nat)), some (.ref h.length), b3, b4, b5'] h3 = .nx [some (.scr (ns.map .int)), some (.int (k : Nat)), some (.ref h.length), b3, b4, b5'] h4 := by
    refine sIf_f (bOf_ok ?_)
    have e5 : xCall r_law_large (aCons (xC (.str "slots 5\nride a 1 1\ncap 20")) (aNil)) [some (.scr (ns.map .int)), some (.int (k : Nat)), some (.ref h.length), b3, b4, b5'] h3 = .ok (.int 100) h4 := (call1 (v := .str "slots 5\nride a 1 1\ncap 20") (h1 := h3) rfl).trans e4
    have q := eqd_int true 100 100 h4
    rw [decide_eq_true rfl] at q
    exact (xOp_ok e5 (b := .int 100) (h2 := h4) rfl).trans q
  refine ⟨h4, some (.ref h.length), b3, b4, b5', ?_⟩
  unfold bO
  rw [sSeq_nx k1, sSeq_nx k2, sSeq_nx k3]
  exact k4
theorem loop6 {ns : List Int} : ∀ (m lo : Nat) (h : Hh) (s1 s2 s3 s4 s5 : Option PV), lo + m ≤ 10 → ∃ h' b1 b2 b3 b4 b5', forL (.nm 1) bO ((List.range' lo m).map fun i => PV.int (i : Nat)) [some (.scr (ns.map .int)), s1, s2, s3, s4, s5] h = .nx [some (.scr (ns.map .int)), b1, b2, b3, b4, b5'] h'
  | 0, lo, h, s1, s2, s3, s4, s5, hm => ⟨h, s1, s2, s3, s4, s5, rfl⟩
  | m + 1, lo, h, s1, s2, s3, s4, s5, hm => by
    obtain ⟨h1, b2, b3, b4, b5', e⟩ := body6 (ns := ns) (k := lo) (by omega) h s2 s3 s4 s5
    obtain ⟨h2, c1, c2, c3, c4, c5, e2⟩ := loop6 m (lo + 1) h1 (some (.int (lo : Nat))) b2 b3 b4 b5' (by omega)
    refine ⟨h2, c1, c2, c3, c4, c5, ?_⟩
    rw [List.range'_succ, List.map_cons, forL, asg_nm]
    simp only [Rs.bind_ok, Rs.bind_exc, Rs.toS_ok, Rs.toS_exc, List.map_cons, List.map_nil, List.length_cons, List.length_nil, List.replicate, List.cons_append, List.nil_append, List.getElem?_cons_zero, List.getElem?_cons_succ, List.getElem?_nil, List.set_cons_zero, List.set_cons_succ, Nat.reduceAdd, Nat.reduceSub, Nat.reduceEqDiff, if_true, if_false, if_pos rfl, reduceIte, e]
    exact e2
theorem mainZ (ns : List Int) (hl : ns.length ≤ 63) (hb : ∀ z ∈ ns, Builtin.Int.intBits z ≤ 1048576) : ∃ h', r_law [.scr (ns.map .int)] [] = .ok (.bl true) h' := by
  have hlen : ∀ hh : Hh, gLen [.scr (ns.map .int)] hh = .ok (.int (ns.length : Nat)) hh := fun hh => by
    show Rs.ok (PV.int ((ns.map PV.int).length : Nat)) hh = _
    rw [List.length_map]
  have e3 : ∃ j : Int, (1 ≤ j ∧ j ≤ 4) ∧ nF [some (.scr (ns.map .int)), none, none, none, none, none] [] = .ok [.int j] [] := by
    refine ⟨if (if (ns.length : Int) < 3 then (ns.length : Int) else 3) > 2 then (if (ns.length : Int) < 3 then (ns.length : Int) else 3) else 2, ?_, ?_⟩
    · split <;> split at * <;> omega
    · unfold nF
      simp only [xCall, aCons, xC, xVar, aNil, List.getElem?_cons_zero, hlen, gMin2, gMax2, Rs.bind_ok]
  obtain ⟨j, ⟨j1, j2⟩, e3⟩ := e3
  have e2 := range1_ok e3 (by omega) (by omega)
  obtain ⟨h2, b1, b2, b3, b4, b5', e4⟩ := loop6 (ns := ns) j.toNat 0 [] none none none none none (by omega)
  refine ⟨h2, ?_⟩
  rw [law_def]
  refine runF_ret rfl ?_
  show sSeq _ _ [some (.scr (ns.map .int)), none, none, none, none, none] [] = _
  rw [sSeq_nx ((sFor_ok (t := .nm 1) (fb := bO) e2).trans e4)]
  rfl
end TR

set_option Elab.async false
set_option linter.all false
set_option maxRecDepth 100000
set_option maxHeartbeats 0
namespace TR
open PySem PySem.Spec L2
open PyProof.Rows (envOfC)
def clZ (K : PySem.W.Frag) (P : Program) (w : World) : En := ⟨fun i => match i with | 0 => He.ga K "InvalidText" | 1 => He.ga K "TooLarge" | 2 => He.ga K "UnknownLetter" | 3 => He.ga K "System" | _ => 0, P, w⟩
def D_copied : He5.DefA := ⟨fun K => He.ga K "_copied", "_copied", "_copied", defArgs (top 1), defBody (top 1), defScope (top 1), [], []⟩
def D_InvalidText : He5.DefA := ⟨fun K => He.ma K (He.ga K "InvalidText") "__init__", "__init__", "InvalidText.__init__", defArgs (inClass (top 3) 0), defBody (inClass (top 3) 0), defScope (inClass (top 3) 0), [], []⟩
def D_TooLarge : He5.DefA := ⟨fun K => He.ma K (He.ga K "TooLarge") "__init__", "__init__", "TooLarge.__init__", defArgs (inClass (top 4) 0), defBody (inClass (top 4) 0), defScope (inClass (top 4) 0), [], []⟩
def D_number_in : He5.DefA := ⟨fun K => He.ga K "number_in", "number_in", "number_in", defArgs (top 10), defBody (top 10), defScope (top 10), [], []⟩
def D_read_numbers : He5.DefA := ⟨fun K => He.ga K "_read_numbers", "_read_numbers", "_read_numbers", defArgs (top 11), defBody (top 11), defScope (top 11), [], []⟩
def D_read_peak : He5.DefA := ⟨fun K => He.ga K "_read_peak", "_read_peak", "_read_peak", defArgs (top 12), defBody (top 12), defScope (top 12), [], []⟩
def D_is_kind : He5.DefA := ⟨fun K => He.ga K "_is_kind", "_is_kind", "_is_kind", defArgs (top 13), defBody (top 13), defScope (top 13), [], []⟩
def D_read_ride : He5.DefA := ⟨fun K => He.ga K "_read_ride", "_read_ride", "_read_ride", defArgs (top 14), defBody (top 14), defScope (top 14), [], []⟩
def D_read_row : He5.DefA := ⟨fun K => He.ga K "_read_row", "_read_row", "_read_row", defArgs (top 15), defBody (top 15), defScope (top 15), [], []⟩
def D_read_rows : He5.DefA := ⟨fun K => He.ga K "read_rows", "read_rows", "read_rows", defArgs (top 16), defBody (top 16), defScope (top 16), [], []⟩
def D_write_rows : He5.DefA := ⟨fun K => He.ga K "write_rows", "write_rows", "write_rows", defArgs (top 17), defBody (top 17), defScope (top 17), [], []⟩
def D_System__later : He5.DefA := ⟨fun K => He.ma K (He.ga K "System") "_later", "_later", "System._later", defArgs (inClass (top 24) 6), defBody (inClass (top 24) 6), defScope (inClass (top 24) 6), [], []⟩
def D_System__full_ride : He5.DefA := ⟨fun K => He.ma K (He.ga K "System") "_full_ride", "_full_ride", "System._full_ride", defArgs (inClass (top 24) 5), defBody (inClass (top 24) 5), defScope (inClass (top 24) 5), [], []⟩
def D_System_step : He5.DefA := ⟨fun K => He.ma K (He.ga K "System") "step", "step", "System.step", defArgs (inClass (top 24) 4), defBody (inClass (top 24) 4), defScope (inClass (top 24) 4), [], []⟩
def D_reached : He5.DefA := ⟨fun K => He.ga K "reached", "reached", "reached", defArgs (top 23), defBody (top 23), defScope (top 23), [], []⟩
def D_System___init__ : He5.DefA := ⟨fun K => He.ma K (He.ga K "System") "__init__", "__init__", "System.__init__", defArgs (inClass (top 24) 0), defBody (inClass (top 24) 0), defScope (inClass (top 24) 0), [], []⟩
def D_System_parse : He5.DefA := ⟨fun K => He5.wf K (He.ga K "System") "classmethod" "parse", "parse", "System.parse", defArgs (inClass (top 24) 1), defBody (inClass (top 24) 1), defScope (inClass (top 24) 1), [], []⟩
def D_states : He5.DefA := ⟨fun K => He.ga K "states", "states", "states", defArgs (top 26), defBody (top 26), defScope (top 26), [], []⟩
def D_law_feed : He5.DefA := ⟨fun K => He.ga K "_law_feed", "_law_feed", "_law_feed", defArgs (top 28), defBody (top 28), defScope (top 28), [], []⟩
def D_law_take : He5.DefA := ⟨fun K => He.ga K "_law_take", "_law_take", "_law_take", defArgs (top 29), defBody (top 29), defScope (top 29), [], []⟩
def D_law_pick : He5.DefA := ⟨fun K => He.ga K "_law_pick", "_law_pick", "_law_pick", defArgs (top 30), defBody (top 30), defScope (top 30), [], []⟩
def D_law_text : He5.DefA := ⟨fun K => He.ga K "_law_text", "_law_text", "_law_text", defArgs (top 33), defBody (top 33), defScope (top 33), [], []⟩
def D_law_letters : He5.DefA := ⟨fun K => He.ga K "_law_letters", "_law_letters", "_law_letters", defArgs (top 34), defBody (top 34), defScope (top 34), [], []⟩
def D_law_base : He5.DefA := ⟨fun K => He.ga K "_law_base", "_law_base", "_law_base", defArgs (top 35), defBody (top 35), defScope (top 35), [], []⟩
def D_law_step : He5.DefA := ⟨fun K => He.ga K "_law_step", "_law_step", "_law_step", defArgs (top 36), defBody (top 36), defScope (top 36), [], []⟩
def D_law_states : He5.DefA := ⟨fun K => He.ga K "_law_states", "_law_states", "_law_states", defArgs (top 37), defBody (top 37), defScope (top 37), [], []⟩
def D_law_large : He5.DefA := ⟨fun K => He.ga K "_law_large", "_law_large", "_law_large", defArgs (top 38), defBody (top 38), defScope (top 38), [], []⟩
def D_law_big : He5.DefA := ⟨fun K => He.ga K "_law_big", "_law_big", "_law_big", defArgs (top 39), defBody (top 39), defScope (top 39), [], []⟩
def D_law : He5.DefA := ⟨fun K => He.ga K "law", "law", "law", defArgs (top 40), defBody (top 40), defScope (top 40), [], []⟩
def fnZ : List He5.DefA := [D_copied, D_InvalidText, D_TooLarge, D_number_in, D_read_numbers, D_read_peak, D_is_kind, D_read_ride, D_read_row, D_read_rows, D_write_rows, D_System__later, D_System__full_ride, D_System_step, D_reached, D_System___init__, D_System_parse, D_states, D_law_feed, D_law_take, D_law_pick, D_law_text, D_law_letters, D_law_base, D_law_step, D_law_states, D_law_large, D_law_big, D_law]
def tsZ : List (Str × List Str) := [("BOUNDS", ["slots", "ride", "transfer", "cap", "bonus"]), ("FOLLOWERS", ["", "slots", "peak", "ride", "transfer", "cap", "bonus"])]
def factsZ (K : PySem.W.Frag) : List Bool := [(He.Fa.glo "FareError").ok K,
  PySem.W.readsIn K (He.ga K "FareError") (.type "type"),
  findB K (He.ga K "FareError") "__init__" "ValueError.__init__",
  clsB K "System" ["rows", "slots", "peak_slots", "prices", "letters", "transfer", "cap", "bonus"],
  PySem.W.readsIn K (He.ga K "System") (.type "type"),
  (He.Fa.glo "_copied").ok K,
  excB K "InvalidText" ["row"],
  excB K "TooLarge" ["bound"],
  (He.Fa.glo "number_in").ok K,
  (He.Fa.glo "_read_numbers").ok K,
  (He.Fa.glo "_read_peak").ok K,
  (He.Fa.glo "_is_kind").ok K,
  (He.Fa.glo "_read_ride").ok K,
  (He.Fa.glo "_read_row").ok K,
  (He.Fa.glo "read_rows").ok K,
  (He.Fa.glo "write_rows").ok K,
  (He.Fa.meth "System" "_later").ok K,
  (He.Fa.meth "System" "_full_ride").ok K,
  (He.Fa.meth "System" "step").ok K,
  (He.Fa.glo "reached").ok K,
  cmetB K (He.ga K "System") "parse",
  (He.Fa.glo "states").ok K,
  (He.Fa.glo "_law_feed").ok K,
  (He.Fa.glo "_law_take").ok K,
  (He.Fa.glo "_law_pick").ok K,
  (He.Fa.glo "_law_text").ok K,
  (He.Fa.glo "_law_letters").ok K,
  (He.Fa.glo "_law_base").ok K,
  (He.Fa.glo "_law_step").ok K,
  (He.Fa.glo "_law_states").ok K,
  (He.Fa.glo "_law_large").ok K,
  (He.Fa.glo "_law_big").ok K,
  (He.Fa.glo "law").ok K,
  (He.Fa.free "abs").ok K,
  (He.Fa.free "dict").ok K,
  (He.Fa.free "isinstance").ok K,
  (He.Fa.free "len").ok K,
  (He.Fa.free "list").ok K,
  (He.Fa.free "max").ok K,
  (He.Fa.free "min").ok K,
  (He.Fa.free "range").ok K,
  (He.Fa.free "set").ok K,
  (He.Fa.free "sorted").ok K,
  (He.Fa.free "str").ok K,
  (He.Fa.free "tuple").ok K,
  (He.Fa.free "zip").ok K,
  conB K "MOST_KINDS" (.int 3),
  conB K "MOST_STATES" (.int 100),
  conB K "NEW_CARD" (.tup [.int 0, .int 0, .int 0, .int 0]),
  conB K "POINT" (.str "."),
  (He.Fa.glo "BOUNDS").ok K,
  tabB K (He.ga K "BOUNDS") tab_BOUNDS,
  (He.Fa.glo "FOLLOWERS").ok K,
  tabB K (He.ga K "FOLLOWERS") tab_FOLLOWERS,
  xfB K (He.ga K "TooLarge"),
  (He.Fa.exm "TooLarge" "TooLarge" true).ok K]
def exZ (K : PySem.W.Frag) : Bool := (factsZ K).all id
theorem txZ {P : Program} {w : World} {K : PySem.W.Frag} {h : Heap} {mg : Str → Option Value} (X : K.In h) (G : h.Ns mainGlobals mg) (c : SaysZ fnZ tsZ exZ w K) : Nonempty (Tx P w K (clZ K P w) mg) := by
  have W_System : ClsF K mg "System" ["rows", "slots", "peak_slots", "prices", "letters", "transfer", "cap", "bonus"] := clsB_ok X G (factZ c.more 3 rfl)
  obtain ⟨d_copied, F_copied⟩ := c.def_ 0 (d := D_copied) rfl
  obtain ⟨d_InvalidText, F_InvalidText⟩ := c.def_ 1 (d := D_InvalidText) rfl
  have W_InvalidText : ExcF K mg "InvalidText" ["row"] := excB_ok X G (factZ c.more 6 rfl)
  obtain ⟨d_TooLarge, F_TooLarge⟩ := c.def_ 2 (d := D_TooLarge) rfl
  have W_TooLarge : ExcF K mg "TooLarge" ["bound"] := excB_ok X G (factZ c.more 7 rfl)
  obtain ⟨d_number_in, F_number_in⟩ := c.def_ 3 (d := D_number_in) rfl
  obtain ⟨d_read_numbers, F_read_numbers⟩ := c.def_ 4 (d := D_read_numbers) rfl
  obtain ⟨d_read_peak, F_read_peak⟩ := c.def_ 5 (d := D_read_peak) rfl
  obtain ⟨d_is_kind, F_is_kind⟩ := c.def_ 6 (d := D_is_kind) rfl
  obtain ⟨d_read_ride, F_read_ride⟩ := c.def_ 7 (d := D_read_ride) rfl
  obtain ⟨d_read_row, F_read_row⟩ := c.def_ 8 (d := D_read_row) rfl
  obtain ⟨d_read_rows, F_read_rows⟩ := c.def_ 9 (d := D_read_rows) rfl
  obtain ⟨d_write_rows, F_write_rows⟩ := c.def_ 10 (d := D_write_rows) rfl
  obtain ⟨d_System__later, F_System__later⟩ := c.def_ 11 (d := D_System__later) rfl
  obtain ⟨d_System__full_ride, F_System__full_ride⟩ := c.def_ 12 (d := D_System__full_ride) rfl
  obtain ⟨d_System_step, F_System_step⟩ := c.def_ 13 (d := D_System_step) rfl
  obtain ⟨d_reached, F_reached⟩ := c.def_ 14 (d := D_reached) rfl
  obtain ⟨d_System___init__, F_System___init__⟩ := c.def_ 15 (d := D_System___init__) rfl
  obtain ⟨d_System_parse, F_System_parse⟩ := c.def_ 16 (d := D_System_parse) rfl
  obtain ⟨d_states, F_states⟩ := c.def_ 17 (d := D_states) rfl
  obtain ⟨d_law_feed, F_law_feed⟩ := c.def_ 18 (d := D_law_feed) rfl
  obtain ⟨d_law_take, F_law_take⟩ := c.def_ 19 (d := D_law_take) rfl
  obtain ⟨d_law_pick, F_law_pick⟩ := c.def_ 20 (d := D_law_pick) rfl
  obtain ⟨d_law_text, F_law_text⟩ := c.def_ 21 (d := D_law_text) rfl
  obtain ⟨d_law_letters, F_law_letters⟩ := c.def_ 22 (d := D_law_letters) rfl
  obtain ⟨d_law_base, F_law_base⟩ := c.def_ 23 (d := D_law_base) rfl
  obtain ⟨d_law_step, F_law_step⟩ := c.def_ 24 (d := D_law_step) rfl
  obtain ⟨d_law_states, F_law_states⟩ := c.def_ 25 (d := D_law_states) rfl
  obtain ⟨d_law_large, F_law_large⟩ := c.def_ 26 (d := D_law_large) rfl
  obtain ⟨d_law_big, F_law_big⟩ := c.def_ 27 (d := D_law_big) rfl
  obtain ⟨d_law, F_law⟩ := c.def_ 28 (d := D_law) rfl
  obtain ⟨u_MOST_KINDS, x_MOST_KINDS, c_MOST_KINDS, r_MOST_KINDS, v_MOST_KINDS⟩ := conB_ok (cl := clZ K P w) X G (factZ c.more 46 rfl : conB K "MOST_KINDS" (.int 3) = true)
  obtain ⟨u_MOST_STATES, x_MOST_STATES, c_MOST_STATES, r_MOST_STATES, v_MOST_STATES⟩ := conB_ok (cl := clZ K P w) X G (factZ c.more 47 rfl : conB K "MOST_STATES" (.int 100) = true)
  obtain ⟨u_NEW_CARD, x_NEW_CARD, c_NEW_CARD, r_NEW_CARD, v_NEW_CARD⟩ := conB_ok (cl := clZ K P w) X G (factZ c.more 48 rfl : conB K "NEW_CARD" (.tup [.int 0, .int 0, .int 0, .int 0]) = true)
  obtain ⟨u_POINT, x_POINT, c_POINT, r_POINT, v_POINT⟩ := conB_ok (cl := clZ K P w) X G (factZ c.more 49 rfl : conB K "POINT" (.str ".") = true)
  exact ⟨{ eP := rfl, ew := rfl, a_FareError := He.ga K "FareError", mc_FareError := .type "type", m_FareError := He.glo_ok X G (factZ c.more 0 rfl), r_FareError := cread_ok (factZ c.more 1 rfl), v_FareError := findB_ok (factZ c.more 2 rfl), m_System := W_System.glo, C_System := W_System.cls, f_System___init__ := He.ma K (He.ga K "System") "__init__", M_System := W_System.maker, mc_System := .type "type", r_System := cread_ok (factZ c.more 4 rfl), h_System_rows := W_System.no "rows" (by decide), h_System_slots := W_System.no "slots" (by decide), h_System_peak_slots := W_System.no "peak_slots" (by decide), h_System_prices := W_System.no "prices" (by decide), h_System_letters := W_System.no "letters" (by decide), h_System_transfer := W_System.no "transfer" (by decide), h_System_cap := W_System.no "cap" (by decide), h_System_bonus := W_System.no "bonus" (by decide), d_copied := d_copied, F_copied := F_copied, f_copied := He.ga K "_copied", m_copied := He.glo_ok X G (factZ c.more 5 rfl), d_InvalidText := d_InvalidText, F_InvalidText := F_InvalidText, f_InvalidText := He.ma K (He.ga K "InvalidText") "__init__", m_InvalidText := W_InvalidText.glo, T_InvalidText := W_InvalidText.oex, i_InvalidText := W_InvalidText.ini, t_InvalidText := W_InvalidText.typ, h_InvalidText_row := W_InvalidText.no "row" (by decide), d_TooLarge := d_TooLarge, F_TooLarge := F_TooLarge, f_TooLarge := He.ma K (He.ga K "TooLarge") "__init__", m_TooLarge := W_TooLarge.glo, T_TooLarge := W_TooLarge.oex, i_TooLarge := W_TooLarge.ini, t_TooLarge := W_TooLarge.typ, h_TooLarge_bound := W_TooLarge.no "bound" (by decide), d_number_in := d_number_in, F_number_in := F_number_in, f_number_in := He.ga K "number_in", m_number_in := He.glo_ok X G (factZ c.more 8 rfl), d_read_numbers := d_read_numbers, F_read_numbers := F_read_numbers, f_read_numbers := He.ga K "_read_numbers", m_read_numbers := He.glo_ok X G (factZ c.more 9 rfl), d_read_peak := d_read_peak, F_read_peak := F_read_peak, f_read_peak := He.ga K "_read_peak", m_read_peak := He.glo_ok X G (factZ c.more 10 rfl), d_is_kind := d_is_kind, F_is_kind := F_is_kind, f_is_kind := He.ga K "_is_kind", m_is_kind := He.glo_ok X G (factZ c.more 11 rfl), d_read_ride := d_read_ride, F_read_ride := F_read_ride, f_read_ride := He.ga K "_read_ride", m_read_ride := He.glo_ok X G (factZ c.more 12 rfl), d_read_row := d_read_row, F_read_row := F_read_row, f_read_row := He.ga K "_read_row", m_read_row := He.glo_ok X G (factZ c.more 13 rfl), d_read_rows := d_read_rows, F_read_rows := F_read_rows, f_read_rows := He.ga K "read_rows", m_read_rows := He.glo_ok X G (factZ c.more 14 rfl), d_write_rows := d_write_rows, F_write_rows := F_write_rows, f_write_rows := He.ga K "write_rows", m_write_rows := He.glo_ok X G (factZ c.more 15 rfl), d_System__later := d_System__later, F_System__later := F_System__later, f_System__later := He.ma K (He.ga K "System") "_later", q_System__later := He.meth_ok (factZ c.more 16 rfl), d_System__full_ride := d_System__full_ride, F_System__full_ride := F_System__full_ride, f_System__full_ride := He.ma K (He.ga K "System") "_full_ride", q_System__full_ride := He.meth_ok (factZ c.more 17 rfl), d_System_step := d_System_step, F_System_step := F_System_step, f_System_step := He.ma K (He.ga K "System") "step", q_System_step := He.meth_ok (factZ c.more 18 rfl), d_reached := d_reached, F_reached := F_reached, f_reached := He.ga K "reached", m_reached := He.glo_ok X G (factZ c.more 19 rfl), d_System___init__ := d_System___init__, F_System___init__ := F_System___init__, d_System_parse := d_System_parse, F_System_parse := F_System_parse, f_System_parse := He5.wf K (He.ga K "System") "classmethod" "parse", p_System_parse := He.ma K (He.ga K "System") "parse", q_System_parse := cmetB_ok (factZ c.more 20 rfl), d_states := d_states, F_states := F_states, f_states := He.ga K "states", m_states := He.glo_ok X G (factZ c.more 21 rfl), d_law_feed := d_law_feed, F_law_feed := F_law_feed, f_law_feed := He.ga K "_law_feed", m_law_feed := He.glo_ok X G (factZ c.more 22 rfl), d_law_take := d_law_take, F_law_take := F_law_take, f_law_take := He.ga K "_law_take", m_law_take := He.glo_ok X G (factZ c.more 23 rfl), d_law_pick := d_law_pick, F_law_pick := F_law_pick, f_law_pick := He.ga K "_law_pick", m_law_pick := He.glo_ok X G (factZ c.more 24 rfl), d_law_text := d_law_text, F_law_text := F_law_text, f_law_text := He.ga K "_law_text", m_law_text := He.glo_ok X G (factZ c.more 25 rfl), d_law_letters := d_law_letters, F_law_letters := F_law_letters, f_law_letters := He.ga K "_law_letters", m_law_letters := He.glo_ok X G (factZ c.more 26 rfl), d_law_base := d_law_base, F_law_base := F_law_base, f_law_base := He.ga K "_law_base", m_law_base := He.glo_ok X G (factZ c.more 27 rfl), d_law_step := d_law_step, F_law_step := F_law_step, f_law_step := He.ga K "_law_step", m_law_step := He.glo_ok X G (factZ c.more 28 rfl), d_law_states := d_law_states, F_law_states := F_law_states, f_law_states := He.ga K "_law_states", m_law_states := He.glo_ok X G (factZ c.more 29 rfl), d_law_large := d_law_large, F_law_large := F_law_large, f_law_large := He.ga K "_law_large", m_law_large := He.glo_ok X G (factZ c.more 30 rfl), d_law_big := d_law_big, F_law_big := F_law_big, f_law_big := He.ga K "_law_big", m_law_big := He.glo_ok X G (factZ c.more 31 rfl), d_law := d_law, F_law := F_law, f_law := He.ga K "law", m_law := He.glo_ok X G (factZ c.more 32 rfl), n_abs := He.free_ok X G (factZ c.more 33 rfl), n_dict := He.free_ok X G (factZ c.more 34 rfl), n_isinstance := He.free_ok X G (factZ c.more 35 rfl), n_len := He.free_ok X G (factZ c.more 36 rfl), n_list := He.free_ok X G (factZ c.more 37 rfl), n_max := He.free_ok X G (factZ c.more 38 rfl), n_min := He.free_ok X G (factZ c.more 39 rfl), n_range := He.free_ok X G (factZ c.more 40 rfl), n_set := He.free_ok X G (factZ c.more 41 rfl), n_sorted := He.free_ok X G (factZ c.more 42 rfl), n_str := He.free_ok X G (factZ c.more 43 rfl), n_tuple := He.free_ok X G (factZ c.more 44 rfl), n_zip := He.free_ok X G (factZ c.more 45 rfl), u_MOST_KINDS := u_MOST_KINDS, x_MOST_KINDS := x_MOST_KINDS, c_MOST_KINDS := c_MOST_KINDS, r_MOST_KINDS := r_MOST_KINDS, v_MOST_KINDS := v_MOST_KINDS, u_MOST_STATES := u_MOST_STATES, x_MOST_STATES := x_MOST_STATES, c_MOST_STATES := c_MOST_STATES, r_MOST_STATES := r_MOST_STATES, v_MOST_STATES := v_MOST_STATES, u_NEW_CARD := u_NEW_CARD, x_NEW_CARD := x_NEW_CARD, c_NEW_CARD := c_NEW_CARD, r_NEW_CARD := r_NEW_CARD, v_NEW_CARD := v_NEW_CARD, u_POINT := u_POINT, x_POINT := x_POINT, c_POINT := c_POINT, r_POINT := r_POINT, v_POINT := v_POINT, a_BOUNDS := He.ga K "BOUNDS", m_BOUNDS := He.glo_ok X G (factZ c.more 50 rfl), t_BOUNDS := tabB_ok (cl := clZ K P w) (c.tab 0 (t := ("BOUNDS", ["slots", "ride", "transfer", "cap", "bonus"])) rfl) (factZ c.more 51 rfl), a_FOLLOWERS := He.ga K "FOLLOWERS", m_FOLLOWERS := He.glo_ok X G (factZ c.more 52 rfl), t_FOLLOWERS := tabB_ok (cl := clZ K P w) (c.tab 1 (t := ("FOLLOWERS", ["", "slots", "peak", "ride", "transfer", "cap", "bonus"])) rfl) (factZ c.more 53 rfl), x_TooLarge := xfB_ok (factZ c.more 54 rfl), one_TooLarge := He.exm_ok (factZ c.more 55 rfl) }⟩
def looseZ0 : List Str := ["_copied", "FareError", "InvalidText", "TooLarge", "UnknownLetter", "FOLLOWERS", "BOUNDS", "MOST_KINDS", "number_in", "_read_numbers", "_read_peak", "_is_kind", "_read_ride", "_read_row", "read_rows", "write_rows", "NEW_CARD", "POINT", "MOST_STATES", "PLACES", "reached", "System", "states", "_law_feed", "_law_take", "_law_pick", "_law_kinds", "_law_fare", "_law_text", "_law_letters"]
def looseZ1 : List Str := ["_law_base", "_law_step", "_law_states", "_law_large", "_law_big"]
def looseZ : List Str := looseZ0 ++ looseZ1
abbrev RZ : PySem.W.OpenRow := PySem.W.OpenLaw.row PySem.Challenge.rw_trickfares_k06_systems_with_too_many_sta
abbrev hkZ : PySem.W.Hook := hookZ 6 fnZ tsZ exZ
def obZ (s : PySem.W.SharedT) : AlZ := obsZG 6 fnZ tsZ exZ (HandSHeadRun.getT s)
theorem obZ_eq (s : PySem.W.SharedT) : obZ s = hkZ.obs s.abs := obsZG_eq (HandSHeadRun.getT_eq s)
theorem runZf (w : World) : HandSHeadRun.RunEq RZ (PySem.W.view RZ.prog [40]) hkZ obZ 12000 looseZ (w.withFollow "special-get-raises" false) := by
  intro os
  kernel_rfl
theorem runZt (w : World) : HandSHeadRun.RunEq RZ (PySem.W.view RZ.prog [40]) hkZ obZ 12000 looseZ (w.withFollow "special-get-raises" true) := by
  intro os
  kernel_rfl
theorem runZ (w : World) : HandSHeadRun.RunEq RZ (PySem.W.view RZ.prog [40]) hkZ obZ 12000 looseZ w := PySem.W.byRow2 "special-get-raises" (P := fun w => HandSHeadRun.RunEq RZ (PySem.W.view RZ.prog [40]) hkZ obZ 12000 looseZ w) runZf runZt w
theorem atZ {w : World} {K : PySem.W.Frag} {h : Heap} {mg : Str → Option Value} {f : Addr} (X : K.In h) (G : h.Ns mainGlobals mg) (hfa : mg ("law" : Str) = some (.ref f)) (c : SaysZ fnZ tsZ exZ w K) : LamX.LawAtS PySem.Challenge.rw_trickfares_k06_systems_with_too_many_sta w K (L2.CX (PySem.Challenge.rw_trickfares_k06_systems_with_too_many_sta).prog w) 14 63 "script" mg f h := by
  obtain ⟨T⟩ := txZ (P := (PySem.Challenge.rw_trickfares_k06_systems_with_too_many_sta).prog) X G c
  have e := hfa.symm.trans T.m_law
  cases e
  exact ⟨T.d_law, [], spOf K (clZ K (PySem.Challenge.rw_trickfares_k06_systems_with_too_many_sta).prog w) 1 r_law, (fun p hp => by cases hp), (fun p hp => by cases hp), (fun p hp => by cases hp), (fun s u => FunD.bindsA (ps := ["script"]) T.F_law (fun _ _ _ _ _ _ us hl => match us, hl with | [_], _ => rfl) s [u] rfl),
    (fun H a ns hl hb _ hS => sp_law hS (mainZ ns hl hb)), fun base _ _ _ => ok_law T⟩
end TR
open PySem PySem.W PySem.Calls PyProof.Rows
theorem PySem.Challenge.cw_trickfares_k06_systems_with_too_many_sta_holds : PySem.Challenge.rw_trickfares_k06_systems_with_too_many_sta.Holds := by
  w_on; o_law
  refine HandSHeadRun.head_any (r := OpenLaw.row PySem.Challenge.rw_trickfares_k06_systems_with_too_many_sta) (q := view (OpenLaw.row PySem.Challenge.rw_trickfares_k06_systems_with_too_many_sta).prog [40]) (H := TR.hkZ) (ob := TR.obZ) (M := 12000) (loose := TR.looseZ) (d := HandSHeadRun.topDef (OpenLaw.row PySem.Challenge.rw_trickfares_k06_systems_with_too_many_sta).prog 40) (kwd := []) TR.obZ_eq
    (by kernel_rfl) (fun s => by kernel_rfl) TR.runZ (by kernel_rfl) (by kernel_rfl) (by kernel_rfl) (by rfl) (by first | assumption | decide +kernel) (by decide +kernel) ⟨rfl, rfl, rfl, rfl, rfl, by decide +kernel⟩ ?hw ?hc
  case hw => w_witness2
  case hc =>
    refine LamX.walk_ofTsE (l := PySem.Challenge.rw_trickfares_k06_systems_with_too_many_sta) (n := 63) (k := 14) (x := "script") (CX := fun w => L2.CX (PySem.Challenge.rw_trickfares_k06_systems_with_too_many_sta).prog w) rfl (by decide) (by kernel_rfl) ⟨rfl, by decide, by decide⟩ ?F (fun w H s e s' z => TR.no_CX z)
    intro w mg fa h Y G hmg0
    obtain ⟨K, KX, c⟩ := Y
    have hmg : mg ("law" : PySem.Str) = some (.ref fa) := by
      have e : (HandSHeadRun.topDef (OpenLaw.row PySem.Challenge.rw_trickfares_k06_systems_with_too_many_sta).prog 40).name = ("law" : PySem.Str) := by kernel_rfl
      rw [← e]
      exact hmg0
    exact ⟨K, KX, TR.atZ KX G hmg c⟩

