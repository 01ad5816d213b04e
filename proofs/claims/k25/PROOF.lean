import PyProof.Rows.All
import Wide.All
import OpenK.AllK
import Wide.FinOn
import HandS.ForMost
import HandS.IsInst
import KE.KeyNested
import KE.KDictKeyed
import KE.KDictWalk
import KE.KDictDisplayH
import HandS.Style
import HandS.TupAny
import KE.KUnpackStar
import KE.KTupSum
import HandS.Wide
import HandS.More
import HandS.FltList
import HandS.NoneIn
import PyProof.WalksMore
import PyProof.Rows.SeqRoads
import HandS.ReCall
import PyProof.ZipIter
import HandS.Zip0
import HandS.Star
import PyProof.Rows.Range3
import HandS.Deep
import KE.SortData
import KE.DataMinMax
import HandS.WordsExc
import OpenK.KOps
import HandS.HotCalls
import HandS.Conv
import HandS.ExcIs
import HandS.OwnEq
import PyProof.InstNe
import HandS.Text
import HandS.StrMore
import HandS.Iter
import HandS.RaiseMore
import PyProof.SumAny
import HandS.Gcd
import PySem.Challenge.RW_lightrules_k25_whole_histories
set_option Elab.async false
set_option linter.all false
set_option maxRecDepth 100000
set_option maxHeartbeats 4000000
namespace Ab
open PySem L2
abbrev DD := PyData
/-- the part of the top that a proof reads, with the program and the world -/
structure KW where
  fr : PySem.W.Frag
  P : Program
  w : World
instance : Coe KW PySem.W.Frag := ⟨KW.fr⟩
abbrev kw (X : Cx) : KW := ⟨Cx.K X, X.prog, X.w⟩
abbrev knd (K : KW) := nestedKind K.P K.w
/-- keys that are whole numbers or None -/
def ltIs : Option Int → Value → Bool
  | .none, .none => true
  | .some i, .int j _ => decide (i = j)
  | _, _ => false
theorem ltIs_shape : ∀ {k : Option Int} {v : Value}, ltIs k v = true → (k = .none ∧ v = .none) ∨ ∃ i t, k = .some i ∧ v = .int i t
  | .none, v, h => by cases v <;> first | exact .inl ⟨rfl, rfl⟩ | cases h
  | .some i, v, h => by
    cases v with
    | int j t => exact .inr ⟨i, t, rfl, by rw [of_decide_eq_true (show decide (i = j) = true from h)]⟩
    | _ => cases h
theorem pyHash_noneL {P : Program} {w : World} {A : Around} {E : Value → Shared → Prop} {s : Shared} {Q : Int → Shared → Prop} (h : Q (reduceHash 0xFCA86420) { s with toks := s.toks + 1 }) : wpAny (model P w) A (PySem.pyHash .none) Q E s :=
  PySem.W.pyHash_slot (T := "NoneType") rfl F.slot_NoneType_hash F.entry_NoneType_hash (F.args_NoneType_hash_1 _) (beq_builtin_none _) (.inl rfl) (wpAny_bind (wpAny_pure (wpAny_bind (wpAny_mkInt (wpAny_pure ⟨_, _, rfl, h⟩)))))
def ltKind (P : Program) (w : World) : PySem.KeyKind P w (Option Int) where
  is := ltIs
  hash := fun k => match k with
    | .none => reduceHash 0xFCA86420
    | .some i => hashInt i
  inj := fun v a b ha hb => by
    rcases ltIs_shape ha with ⟨rfl, rfl⟩ | ⟨i, t, rfl, rfl⟩
    · rcases ltIs_shape hb with ⟨rfl, _⟩ | ⟨j, u, rfl, e⟩
      · rfl
      · cases e
    · rcases ltIs_shape hb with ⟨rfl, e⟩ | ⟨j, u, rfl, e⟩
      · cases e
      · injection e with e1 _; rw [e1]
  byValue := fun k v h => by
    rcases ltIs_shape h with ⟨rfl, rfl⟩ | ⟨i, t, rfl, rfl⟩ <;> rfl
  pyHash := fun hv h => by
    rcases ltIs_shape hv with ⟨rfl, rfl⟩ | ⟨i, t, rfl, rfl⟩
    · exact pyHash_noneL h
    · exact wpAny_pyHash_int h
  eqBool := fun {A E s a b u v Q} hu hv h => by
    rcases ltIs_shape hu with ⟨rfl, rfl⟩ | ⟨i, t, rfl, rfl⟩
    · rcases ltIs_shape hv with ⟨rfl, rfl⟩ | ⟨j, u, rfl, rfl⟩
      · exact SeqAt.EqAt.same _ _ _ _ _ h
      · exact SeqAt.EqAt.none_int j u _ _ _ _ h
    · rcases ltIs_shape hv with ⟨rfl, rfl⟩ | ⟨j, u, rfl, rfl⟩
      · exact SeqAt.EqAt.int_none i t _ _ _ _ h
      · have e : decide ((some i : Option Int) = some j) = (i == j) := by
          by_cases q : i = j
          · subst q; simp
          · rw [decide_eq_false (fun z => q (Option.some.inj z))]
            exact (beq_eq_false_iff_ne.mpr q).symm
        rw [e] at h
        exact wpAny_eqBool_int h
  «strs» := fun k x t v h => by
    rcases ltIs_shape h with ⟨rfl, e⟩ | ⟨i, u, rfl, e⟩ <;> cases e
/-- a thing of one's own: a list, a dict, a dict whose keys are whole numbers or None -/
inductive Og where
  | lst (ds : List DD) | dct (kvs : List (DD × DD)) | lct (kvs : List (Option Int × DD))
def Og.d : Og → DD
  | .lst ds => .list ds
  | .dct kvs => .dict kvs
  | .lct _ => .none
/-- what can be settled -/
def Og.ok : Og → Prop
  | .lst _ => True
  | .dct _ => True
  | .lct _ => False
/-- a slot: unset, a datum that stays, a thing of one's own that may still change, a town (two ints that may change), the script -/
abbrev Kd := Option (List (DD × DD) → Prop)
/-- a thing of one's own that is made of several objects: what is known of it -/
structure LnT where
  A : List Addr
  /-- new in this def: it may be changed there -/
  own : Bool
  at_ : KW → Hp → Hp → V → Prop
  mono : ∀ {K : KW} {H F H' F' : Hp} {v : V}, at_ K H F v → (∀ x ∈ A, H' x = H x) → (∀ a o, F a = some o → F' a = some o) → at_ K H' F' v
inductive Sl where
  | un | va (d : DD) | og (g : Og) | ty (k : Kd) | sc (ns : List Int) | ln (φ : LnT)
/-- a town; a dict that many defs write, whose entries keep J -/
abbrev Sl.tw : Sl := .ty none
abbrev Sl.ow (ds : List DD) : Sl := .og (.lst ds)
abbrev AE := List Sl
mutual
def nk : DD → NestedKey
  | .none => .none
  | .bool b => .num (if b = true then 1 else 0)
  | .int i => .num i
  | .str x => .text x
  | .tuple ds => .tup (nks ds)
  | .list _ => .none
  | .dict _ => .none
def nks : List DD → List NestedKey
  | [] => []
  | d :: ds => nk d :: nks ds
end
mutual
def keyD : DD → Bool
  | .none => true
  | .bool _ => true
  | .int _ => true
  | .str _ => true
  | .tuple ds => keyDs ds
  | .list _ => false
  | .dict _ => false
def keyDs : List DD → Bool
  | [] => true
  | d :: ds => keyD d && keyDs ds
end
/-- a key: a tuple of such things -/
def isKey : DD → Bool
  | .tuple ds => keyDs ds && decide ((nk (.tuple ds)).depth ≤ 8)
  | _ => false
/-- the object at a is o -/
def KDo (a : Addr) (o : Obj) : HO := .ext fun h => h.get? a = some o
/-- o is a dict with the entries xs -/
def DO (K : KW) (a : Addr) (o : Obj) (xs : List (NestedKey × Addr × Value)) : Prop :=
  o.ExactDict ∧ (∃ es ep, o.data = .dict es ep ∧ es.toList = xs.map (entryOfKey (knd K))) ∧ (xs.map (·.1)).Nodup ∧ (a == sysModules) = false ∧ xs.length ≤ sizeLine
mutual
inductive Rp (K : KW) (H : Hp) : V → PyData → Prop
  | non : Rp K H .non .none
  | bl (b : Bool) : Rp K H (.bl b) (.bool b)
  | int (i : Int) : Rp K H (.int i) (.int i)
  | str (x : Str) : Rp K H (.str x) (.str x)
  | lst {a : Addr} {xs : List V} {ds : List PyData} : H a = some (.lst xs) → RpAll K H xs ds → Rp K H (.ref a) (.list ds)
  | tup {a : Addr} {xs : List V} {ds : List PyData} : SqT K H a xs → RpAll K H xs ds → Rp K H (.ref a) (.tuple ds)
  | dct {a : Addr} {o : Obj} {xs : List (NestedKey × Addr × Value)} {kvs : List (PyData × PyData)} : H a = some (KDo a o) → DO K a o xs → RpKV K H xs kvs → Rp K H (.ref a) (.dict kvs)
inductive RpKV (K : KW) (H : Hp) : List (NestedKey × Addr × Value) → List (PyData × PyData) → Prop
  | nil : RpKV K H [] []
  | cons {x : NestedKey × Addr × Value} {xs : List (NestedKey × Addr × Value)} {v : V} {kd vd : PyData} {kvs : List (PyData × PyData)} : x.1 = nk kd → isKey kd = true → Rp K H (.ref x.2.1) kd → RelV v x.2.2 → Rp K H v vd → RpKV K H xs kvs → RpKV K H (x :: xs) ((kd, vd) :: kvs)
inductive RpAll (K : KW) (H : Hp) : List V → List PyData → Prop
  | nil : RpAll K H [] []
  | cons {v : V} {vs : List V} {d : PyData} {ds : List PyData} : Rp K H v d → RpAll K H vs ds → RpAll K H (v :: vs) (d :: ds)
end
mutual
theorem Rp.dp {K : KW} {F : Hp} : ∀ {v : V} (d : PyData), d.canLay0 = true → Rp K F v d → Dp K F v d
  | _, .none, _, h => by cases h; exact .non
  | _, .bool b, _, h => by cases h; exact .bl b
  | _, .int i, _, h => by cases h; exact .int i
  | _, .str x, _, h => by cases h; exact .str x
  | _, .list ds, l, h => by cases h with | lst a b => exact .lst (.inl (.inl a)) (RpAll.dp ds (by simpa [PyData.canLay0] using l) b)
  | _, .tuple ds, l, h => by cases h with | tup a b => exact .tup a (RpAll.dp ds (by simpa [PyData.canLay0] using l) b)
  | _, .dict _, l, h => by simp [PyData.canLay0] at l
theorem RpAll.dp {K : KW} {F : Hp} : ∀ {vs : List V} (ds : List PyData), PyData.canLayAll0 ds = true → RpAll K F vs ds → DpAll K F vs ds
  | _, [], _, h => by cases h; exact .nil
  | _, d :: ds, l, h => by
    rw [PyData.canLayAll0, Bool.and_eq_true] at l
    cases h with | cons a b => exact .cons (Rp.dp d l.1 a) (RpAll.dp ds l.2 b)
end
def Sub (F H : Hp) : Prop := ∀ a o, F a = some o → H a = some o
theorem Sub.refl (H : Hp) : Sub H H := fun _ _ h => h
theorem Sub.trans {F G H : Hp} (a : Sub F G) (b : Sub G H) : Sub F H := fun c o h => b c o (a c o h)
theorem Sub.seqL {K : KW} {F H : Hp} {a : Addr} {xs : List V} (e : Sub F H) (h : SqL K F a xs) : SqL K H a xs := by
  rcases h with (h | ⟨o, h⟩) | h
  · exact .inl (.inl (e _ _ h))
  · exact .inl (.inr ⟨o, e _ _ h⟩)
  · exact .inr h
theorem Sub.seqT {K : KW} {F H : Hp} {a : Addr} {xs : List V} (e : Sub F H) (h : SqT K F a xs) : SqT K H a xs := by
  rcases h with (h | ⟨o, h⟩) | h
  · exact .inl (.inl (e _ _ h))
  · exact .inl (.inr ⟨o, e _ _ h⟩)
  · exact .inr h
mutual
theorem Rp.sub {K : KW} {F H : Hp} (e : Sub F H) : ∀ {v : V} (d : PyData), Rp K F v d → Rp K H v d
  | _, .none, h => by cases h; exact .non
  | _, .bool b, h => by cases h; exact .bl b
  | _, .int i, h => by cases h; exact .int i
  | _, .str x, h => by cases h; exact .str x
  | _, .list ds, h => by cases h with | lst a b => exact .lst (e _ _ a) (RpAll.sub e ds b)
  | _, .tuple ds, h => by cases h with | tup a b => exact .tup (e.seqT a) (RpAll.sub e ds b)
  | _, .dict kvs, h => by cases h with | dct a b c => exact .dct (e _ _ a) b (RpKV.sub e kvs c)
theorem RpKV.sub {K : KW} {F H : Hp} (e : Sub F H) : ∀ {xs : List (NestedKey × Addr × Value)} (kvs : List (PyData × PyData)), RpKV K F xs kvs → RpKV K H xs kvs
  | _, [], h => by cases h; exact .nil
  | _, (k, v) :: kvs, h => by cases h with | cons a b c d f g => exact .cons a b (Rp.sub e k c) d (Rp.sub e v f) (RpKV.sub e kvs g)
theorem RpAll.sub {K : KW} {F H : Hp} (e : Sub F H) : ∀ {vs : List V} (ds : List PyData), RpAll K F vs ds → RpAll K H vs ds
  | _, [], h => by cases h; exact .nil
  | _, d :: ds, h => by cases h with | cons a b => exact .cons (Rp.sub e d a) (RpAll.sub e ds b)
end
theorem RpAll.len {K : KW} {F : Hp} : ∀ {vs : List V} {ds : List PyData}, RpAll K F vs ds → vs.length = ds.length
  | _, [], h => by cases h; rfl
  | _, d :: ds, h => by cases h with | cons a b => rw [List.length_cons, List.length_cons, RpAll.len b]
theorem RpAll.get {K : KW} {F : Hp} : ∀ {vs : List V} {ds : List PyData} {i : Nat} {d : PyData}, RpAll K F vs ds → ds[i]? = some d → ∃ v, vs[i]? = some v ∧ Rp K F v d
  | _, [], _, _, h, e => by simp at e
  | _, d :: ds, 0, d', h, e => by cases h with | cons a b => cases Option.some.inj e; exact ⟨_, rfl, a⟩
  | _, d :: ds, i + 1, d', h, e => by cases h with | cons a b => exact RpAll.get (i := i) b (by simpa using e)
theorem RpAll.app {K : KW} {F : Hp} : ∀ {vs ws : List V} {ds es : List PyData}, RpAll K F vs ds → RpAll K F ws es → RpAll K F (vs ++ ws) (ds ++ es)
  | _, _, [], _, h, g => by cases h; exact g
  | _, _, d :: ds, _, h, g => by cases h with | cons a b => exact .cons a (RpAll.app b g)
theorem RpAll.take {K : KW} {F : Hp} : ∀ {vs : List V} {ds : List PyData} (n : Nat), RpAll K F vs ds → RpAll K F (vs.take n) (ds.take n)
  | _, _, 0, _ => .nil
  | _, [], _ + 1, h => by cases h; exact .nil
  | _, d :: ds, n + 1, h => by cases h with | cons a b => exact .cons a (RpAll.take n b)
theorem RpAll.drop {K : KW} {F : Hp} : ∀ {vs : List V} {ds : List PyData} (n : Nat), RpAll K F vs ds → RpAll K F (vs.drop n) (ds.drop n)
  | _, _, 0, h => h
  | _, [], _ + 1, h => by cases h; exact .nil
  | _, d :: ds, n + 1, h => by cases h with | cons a b => exact RpAll.drop n b
theorem RpAll.set {K : KW} {F : Hp} : ∀ {vs : List V} {ds : List PyData} (n : Nat) {v : V} {d : PyData}, RpAll K F vs ds → Rp K F v d → RpAll K F (vs.set n v) (ds.set n d)
  | _, [], _, _, _, h, _ => by cases h; exact .nil
  | _, d :: ds, 0, _, _, h, g => by cases h with | cons a b => exact .cons g b
  | _, d :: ds, n + 1, _, _, h, g => by cases h with | cons a b => exact .cons a (RpAll.set n b g)
/-- o is a dict with the entries xs, keys whole numbers or None -/
def DL (K : KW) (a : Addr) (o : Obj) (xs : List (Option Int × Value)) : Prop := o.IsDictOf (ltKind K.P K.w) xs ∧ (a == sysModules) = false ∧ xs.length ≤ sizeLine
abbrev RpLs (K : KW) (F : Hp) : List (Option Int × Value) → List (Option Int × DD) → Prop := Paired fun x p => x.1 = p.1 ∧ ∃ v, RelV v x.2 ∧ Rp K F v p.2
theorem RpLs.sub {K : KW} {F H : Hp} (e : Sub F H) {xs : List (Option Int × Value)} {kvs : List (Option Int × DD)} (h : RpLs K F xs kvs) : RpLs K H xs kvs :=
  Paired.mapP h fun _ _ ⟨a, v, b, c⟩ => ⟨a, v, b, Rp.sub e _ c⟩
/-- what stands at a for a thing of one's own -/
inductive OgRp (K : KW) (F : Hp) (a : Addr) : HO → Og → Prop
  | lst {vs : List V} {ds : List DD} : RpAll K F vs ds → OgRp K F a (.lst vs) (.lst ds)
  | dct {o : Obj} {xs : List (NestedKey × Addr × Value)} {kvs : List (DD × DD)} : DO K a o xs → RpKV K F xs kvs → OgRp K F a (KDo a o) (.dct kvs)
  | lct {o : Obj} {xs : List (Option Int × Value)} {kvs : List (Option Int × DD)} : DL K a o xs → RpLs K F xs kvs → OgRp K F a (KDo a o) (.lct kvs)
theorem OgRp.sub {K : KW} {F H : Hp} {a : Addr} {u : HO} {g : Og} (e : Sub F H) : OgRp K F a u g → OgRp K H a u g
  | .lst h => .lst (RpAll.sub e _ h)
  | .dct d h => .dct d (RpKV.sub e _ h)
  | .lct d h => .lct d (h.sub e)
theorem OgRp.rp {K : KW} {F H : Hp} {a : Addr} {u : HO} {g : Og} (e : Sub F H) (ha : H a = some u) (ok : g.ok) : OgRp K F a u g → Rp K H (.ref a) g.d
  | .lst h => .lst ha (RpAll.sub e _ h)
  | .dct d h => .dct ha d (RpKV.sub e _ h)
  | .lct _ _ => ok.elim
theorem OgRp.mut {K : KW} {F : Hp} {a : Addr} {u : HO} {g : Og} : OgRp K F a u g → Mut (some u)
  | .lst _ => True.intro
  | .dct _ _ => True.intro
  | .lct _ _ => True.intro
theorem OgRp.lstOf {K : KW} {F : Hp} {a : Addr} {u : HO} {ds : List DD} : OgRp K F a u (.lst ds) → ∃ vs, u = .lst vs ∧ RpAll K F vs ds
  | .lst h => ⟨_, rfl, h⟩
/-- the town's two ints -/
def Tc (H : Hp) (a : Addr) : Prop := ∃ (p : Nat) (q : Int), H a = some (.lst [.int (p : Int), .int q])
mutual
theorem Rp.updK {K : KW} {H : Hp} {p : Addr} {o : HO} (hp : H p = none ∨ Mut (H p)) : ∀ {v : V} (d : PyData), keyD d = true → Rp K H v d → Rp K (upd H p o) v d
  | _, .none, _, h => by cases h; exact .non
  | _, .bool b, _, h => by cases h; exact .bl b
  | _, .int i, _, h => by cases h; exact .int i
  | _, .str x, _, h => by cases h; exact .str x
  | _, .list ds, k, h => by simp [keyD] at k
  | _, .tuple ds, k, h => by
    cases h with
    | tup a b =>
      refine .tup ?_ (RpAll.updK hp ds (by simpa [keyD] using k) b)
      have ne : ∀ {c : Addr} {u : HO}, H c = some u → ¬ Mut (some u) → (upd H p o) c = some u := fun {c u} hc nm => by
        have : c ≠ p := fun z => by
          subst z
          rcases hp with hp | hp
          · rw [hc] at hp; cases hp
          · rw [hc] at hp; exact nm hp
        rw [upd_ne this]; exact hc
      rcases a with (a | ⟨u, a⟩) | a
      · exact .inl (.inl (ne a fun z => z.elim))
      · exact .inl (.inr ⟨u, ne a fun z => z.elim⟩)
      · exact .inr a
  | _, .dict _, k, h => by simp [keyD] at k
theorem RpAll.updK {K : KW} {H : Hp} {p : Addr} {o : HO} (hp : H p = none ∨ Mut (H p)) : ∀ {vs : List V} (ds : List PyData), keyDs ds = true → RpAll K H vs ds → RpAll K (upd H p o) vs ds
  | _, [], _, h => by cases h; exact .nil
  | _, d :: ds, k, h => by
    rw [keyDs, Bool.and_eq_true] at k
    cases h with | cons a b => exact .cons (Rp.updK hp d k.1 a) (RpAll.updK hp ds k.2 b)
end
theorem isKey_keyD : ∀ {d : DD}, isKey d = true → keyD d = true
  | .tuple ds, h => by
    rw [isKey, Bool.and_eq_true] at h
    rw [keyD]; exact h.1
  | .none, h => by cases h
  | .bool _, h => by cases h
  | .int _, h => by cases h
  | .str _, h => by cases h
  | .list _, h => by cases h
  | .dict _, h => by cases h
def BoolV (kvs : List (DD × DD)) : Prop := ∀ e ∈ kvs, ∃ b, e.2 = .bool b
theorem RpKV.updK {K : KW} {H : Hp} {p : Addr} {o : HO} (hp : H p = none ∨ Mut (H p)) : ∀ {xs : List (NestedKey × Addr × Value)} (kvs : List (PyData × PyData)), BoolV kvs → RpKV K H xs kvs → RpKV K (upd H p o) xs kvs
  | _, [], _, h => by cases h; exact .nil
  | _, (k, v) :: kvs, hb, h => by
    cases h with
    | cons a b c d f g =>
      obtain ⟨x, e⟩ := hb (k, v) List.mem_cons_self
      have e : v = .bool x := e
      subst e
      exact .cons a b (Rp.updK hp k (isKey_keyD b) c) d (Rp.updK hp _ rfl f) (RpKV.updK hp kvs (fun y hy => hb y (List.mem_cons_of_mem _ hy)) g)
/-- a dict whose entries keep J -/
def Kc (K : KW) (H : Hp) (a : Addr) (J : List (DD × DD) → Prop) : Prop := ∃ o xs kvs, H a = some (KDo a o) ∧ DO K a o xs ∧ RpKV K H xs kvs ∧ BoolV kvs ∧ J kvs
/-- the things that change everywhere: which, and of what kind -/
structure Tws (K : KW) where
  is : Addr → Prop
  kd : Addr → Kd
instance {K : KW} : CoeFun (Tws K) fun _ => Addr → Prop := ⟨Tws.is⟩
def Tws.ok {K : KW} (T : Tws K) (H : Hp) (a : Addr) : Prop := match T.kd a with
  | none => Tc H a
  | some J => Kc K H a J
theorem Tws.mono {K : KW} {T : Tws K} {H : Hp} {a p : Addr} {u : HO} (h : T.ok H a) (ne : a ≠ p) (hp : H p = none ∨ Mut (H p)) : T.ok (upd H p u) a := by
  unfold Tws.ok at *
  cases z : T.kd a with
  | none =>
    rw [z] at h
    obtain ⟨p, q, y⟩ := h
    exact ⟨p, q, by rw [upd_ne ne]; exact y⟩
  | some J =>
    rw [z] at h
    obtain ⟨o, xs, kvs, h1, h2, h3, h4, h5⟩ := h
    exact ⟨o, xs, kvs, by rw [upd_ne ne]; exact h1, h2, RpKV.updK hp _ h4 h3, h4, h5⟩
theorem Tws.has {K : KW} {T : Tws K} {H : Hp} {a : Addr} (h : T.ok H a) : ∃ o, H a = some o := by
  unfold Tws.ok at h
  cases z : T.kd a with
  | none =>
    rw [z] at h
    obtain ⟨p, q, y⟩ := h
    exact ⟨_, y⟩
  | some J =>
    rw [z] at h
    obtain ⟨o, xs, kvs, h1, _⟩ := h
    exact ⟨_, h1⟩
theorem Tws.town {K : KW} {T : Tws K} {H : Hp} {a : Addr} (h : T.ok H a) (z : T.kd a = none) : Tc H a := by
  unfold Tws.ok at h
  rw [z] at h
  exact h
theorem Tws.of_town {K : KW} {T : Tws K} {H : Hp} {a : Addr} (h : Tc H a) (z : T.kd a = none) : T.ok H a := by
  unfold Tws.ok
  rw [z]
  exact h
theorem Tws.kd_ok {K : KW} {T T' : Tws K} {H : Hp} {a : Addr} (h : T.ok H a) (z : T'.kd a = T.kd a) : T'.ok H a := by
  unfold Tws.ok at *
  rw [z]
  exact h
/-- more is known of the entries -/
def KdLe : Kd → Kd → Prop
  | none, none => True
  | some J', some J => ∀ kvs, J' kvs → J kvs
  | _, _ => False
theorem KdLe.refl : ∀ k : Kd, KdLe k k
  | none => True.intro
  | some _ => fun _ h => h
theorem Tws.le_ok {K : KW} {T T' : Tws K} {H : Hp} {a : Addr} (h : T.ok H a) (z : KdLe (T.kd a) (T'.kd a)) : T'.ok H a := by
  unfold Tws.ok at *
  cases e : T.kd a with
  | none =>
    cases e' : T'.kd a with
    | none => rw [e] at h; exact h
    | some J => rw [e, e'] at z; exact z.elim
  | some J =>
    cases e' : T'.kd a with
    | none => rw [e, e'] at z; exact z.elim
    | some J' =>
      rw [e, e'] at z
      rw [e] at h
      obtain ⟨o, xs, kvs, h1, h2, h3, h4, h5⟩ := h
      exact ⟨o, xs, kvs, h1, h2, h3, h4, z _ h5⟩
/-- B, F0: the heap and its settled part at the def's entry; M: the towns handed in; T: all towns; F: what is settled now -/
structure Gd {K : KW} (B F0 : Hp) (M T : Tws K) (H F : Hp) : Prop where
  sub : Sub F H
  f0 : Sub F0 F
  new : ∀ a o, F a = some o → F0 a = some o ∨ B a = none
  keep : ∀ a o, B a = some o → ¬ M a → H a = some o
  tw : ∀ a, T a → F a = none ∧ T.ok H a ∧ (M a ∨ B a = none)
  mt : ∀ a, M a → T a ∧ KdLe (T.kd a) (M.kd a)
structure R (K : KW) (B F0 : Hp) (M T : Tws K) (env : AE) (σ : L2.St) (H F : Hp) : Prop extends Gd B F0 M T H F where
  len : env.length = σ.length
  va : ∀ (i : Nat) d, env[i]? = some (.va d) → ∃ v, σ[i]? = some (some v) ∧ Rp K F v d
  og : ∀ (i : Nat) g, env[i]? = some (.og g) → ∃ a u, σ[i]? = some (some (.ref a)) ∧ H a = some u ∧ F a = none ∧ B a = none ∧ ¬ T a ∧ OgRp K F a u g
  ti : ∀ (i : Nat) (k : Kd), env[i]? = some (.ty k) → ∃ a, T a ∧ T.kd a = k ∧ σ[i]? = some (some (.ref a))
  sc : ∀ (i : Nat) ns, env[i]? = some (.sc ns) → ∃ a, σ[i]? = some (some (.ref a)) ∧ SqL K F a (ns.map V.int)
  di : ∀ (i j : Nat) ds es a, env[i]? = some (.og ds) → env[j]? = some (.og es) → σ[i]? = some (some (.ref a)) → σ[j]? = some (some (.ref a)) → i = j
  ln : ∀ (i : Nat) φ, env[i]? = some (.ln φ) → (∃ v, σ[i]? = some (some v) ∧ φ.at_ K H F v) ∧ ∀ x ∈ φ.A, (∃ o, H x = some o) ∧ F x = none ∧ (φ.own = true → B x = none) ∧ ¬ T x ∧ ∀ (j : Nat) g, env[j]? = some (.og g) → σ[j]? ≠ some (some (.ref x))
theorem R.ow {K : KW} {B F0 : Hp} {M T : Tws K} {env : AE} {σ : L2.St} {H F : Hp} (r : R K B F0 M T env σ H F) (i : Nat) (ds : List DD) (e : env[i]? = some (.ow ds)) : ∃ a vs, σ[i]? = some (some (.ref a)) ∧ H a = some (.lst vs) ∧ F a = none ∧ B a = none ∧ ¬ T a ∧ RpAll K F vs ds := by
  obtain ⟨a, u, h1, h2, h3, h4, h5, h6⟩ := r.og i _ e
  obtain ⟨vs, rfl, h⟩ := h6.lstOf
  exact ⟨a, vs, h1, h2, h3, h4, h5, h⟩
theorem Gd.dom {B F0 : Hp} {M T : Tws K} {H F : Hp} (g : Gd B F0 M T H F) {a : Addr} (h : H a = none) : B a = none := by
  cases e : B a with
  | none => rfl
  | some o =>
    by_cases m : M a
    · obtain ⟨_, y, _⟩ := g.tw a (g.mt a m).1
      obtain ⟨_, z⟩ := Tws.has y
      rw [h] at z; cases z
    · rw [g.keep a o e m] at h; cases h
/-- a step that settles more, makes new things, changes towns alone -/
structure Stp {K : KW} (T : Tws K) (H F H' F' : Hp) : Prop where
  sub : Sub F' H'
  ext : Sub F F'
  new : ∀ a o, F' a = some o → F a = some o ∨ H a = none
  keep : ∀ a o, H a = some o → ¬ T a → H' a = some o
  tc : ∀ a, T a → T.ok H' a
/-- what every step leans on -/
structure Bs {K : KW} (T : Tws K) (H F : Hp) : Prop where
  sub : Sub F H
  tw : ∀ a, T a → F a = none ∧ T.ok H a
section
variable {K : KW} {B F0 : Hp} {M T : Tws K} {env : AE} {σ : L2.St} {H F H' F' H2 F2 : Hp}
theorem Gd.bs (g : Gd B F0 M T H F) : Bs T H F := ⟨g.sub, fun a t => ⟨(g.tw a t).1, (g.tw a t).2.1⟩⟩
theorem Stp.refl (b : Bs T H F) : Stp T H F H F := ⟨b.sub, Sub.refl F, fun _ _ h => .inl h, fun _ _ h _ => h, fun a t => (b.tw a t).2⟩
theorem Stp.dom (b : Stp T H F H' F') {a : Addr} (h : H' a = none) : H a = none := by
  cases e : H a with
  | none => rfl
  | some o =>
    by_cases m : T a
    · obtain ⟨_, z⟩ := Tws.has (b.tc a m)
      rw [h] at z; cases z
    · rw [b.keep a o e m] at h; cases h
theorem Stp.bs (b : Bs T H F) (s : Stp T H F H' F') : Bs T H' F' := ⟨s.sub, fun a t => by
  refine ⟨?_, s.tc a t⟩
  cases e : F' a with
  | none => rfl
  | some o =>
    rcases s.new a o e with h | h
    · rw [(b.tw a t).1] at h; cases h
    · obtain ⟨_, z⟩ := Tws.has (b.tw a t).2
      rw [h] at z; cases z⟩
theorem Stp.trans (a : Stp T H F H' F') (b : Stp T H' F' H2 F2) : Stp T H F H2 F2 := ⟨b.sub, a.ext.trans b.ext, fun c o h => by
  rcases b.new c o h with h | h
  · exact a.new c o h
  · exact .inr (a.dom h), fun c o h t => b.keep c o (a.keep c o h t) t, b.tc⟩
/-- a new object, settled at once -/
theorem Stp.al {p : Addr} {o : HO} (b : Bs T H F) (h : H p = none) : Stp T H F (upd H p o) (upd F p o) := by
  refine ⟨fun a u e => ?_, fun a u e => ?_, fun a u e => ?_, fun a u e _ => ?_, fun a t => ?_⟩
  · by_cases q : a = p
    · subst q; rw [upd_same] at e ⊢; exact e
    · rw [upd_ne q] at e ⊢; exact b.sub a u e
  · rw [upd_ne (ne_of_none (b.sub a u e) h)]; exact e
  · by_cases q : a = p
    · subst q; exact .inr h
    · rw [upd_ne q] at e; exact .inl e
  · rw [upd_ne (ne_of_none e h)]; exact e
  · obtain ⟨_, z⟩ := Tws.has (b.tw a t).2
    exact Tws.mono (b.tw a t).2 (ne_of_none z h) (.inl h)
/-- a new object, not settled -/
theorem Stp.al0 {p : Addr} {o : HO} (b : Bs T H F) (h : H p = none) : Stp T H F (upd H p o) F := by
  refine ⟨fun a u e => ?_, Sub.refl F, fun a u e => .inl e, fun a u e _ => ?_, fun a t => ?_⟩
  · rw [upd_ne (ne_of_none (b.sub a u e) h)]; exact b.sub a u e
  · rw [upd_ne (ne_of_none e h)]; exact e
  · obtain ⟨_, z⟩ := Tws.has (b.tw a t).2
    exact Tws.mono (b.tw a t).2 (ne_of_none z h) (.inl h)
/-- an object of the heap that is not settled, new since H, is settled -/
theorem Stp.fz {a : Addr} {o : HO} (s : Stp T H F H' F') (hH : H a = none) (h : H' a = some o) (hF : F' a = none) : Stp T H F H' (upd F' a o) := by
  refine ⟨fun b u e => ?_, fun b u e => ?_, fun b u e => ?_, s.keep, s.tc⟩
  · by_cases q : b = a
    · subst q; rw [upd_same] at e; cases e; exact h
    · rw [upd_ne q] at e; exact s.sub b u e
  · rw [upd_ne (ne_of_none (s.ext b u e) hF)]; exact s.ext b u e
  · by_cases q : b = a
    · subst q; exact .inr hH
    · rw [upd_ne q] at e; exact s.new b u e
theorem sub_upd {a : Addr} {o : HO} (h : F a = none) : Sub F (upd F a o) := fun b u e => by
  rw [upd_ne (ne_of_none e h)]; exact e
theorem Gd.step (g : Gd B F0 M T H F) (s : Stp T H F H' F') : Gd B F0 M T H' F' := by
  refine ⟨s.sub, g.f0.trans s.ext, fun a o e => ?_, fun a o e m => ?_, fun a t => ?_, g.mt⟩
  · rcases s.new a o e with h | h
    · exact g.new a o h
    · exact .inr (g.dom h)
  · refine s.keep a o (g.keep a o e m) fun t => ?_
    rcases (g.tw a t).2.2 with z | z
    · exact m z
    · rw [e] at z; cases z
  · exact ⟨((s.bs g.bs).tw a t).1, s.tc a t, (g.tw a t).2.2⟩
theorem R.lnS (r : R K B F0 M T env σ H F) {i : Nat} {s' : Sl} {o : Option V} (h1 : ∀ φ, s' ≠ .ln φ) (h2 : ∀ g a, s' = .og g → o = some (.ref a) → ∀ (j : Nat) φ, env[j]? = some (.ln φ) → a ∉ φ.A) :
    ∀ (j : Nat) φ, (env.set i s')[j]? = some (.ln φ) → (∃ v, (σ.set i o)[j]? = some (some v) ∧ φ.at_ K H F v) ∧ ∀ x ∈ φ.A, (∃ o, H x = some o) ∧ F x = none ∧ (φ.own = true → B x = none) ∧ ¬ T x ∧ ∀ (k : Nat) g, (env.set i s')[k]? = some (.og g) → (σ.set i o)[k]? ≠ some (some (.ref x)) := fun j φ he => by
  by_cases q : i = j
  · subst q
    have hl : i < env.length := by
      have := (List.getElem?_eq_some_iff.mp he).1
      rwa [List.length_set] at this
    rw [List.getElem?_set_self hl] at he
    exact absurd (Option.some.inj he) (h1 φ)
  · rw [List.getElem?_set_ne q] at he ⊢
    obtain ⟨hv, h⟩ := r.ln j φ he
    refine ⟨hv, fun x hx => ⟨(h x hx).1, (h x hx).2.1, (h x hx).2.2.1, (h x hx).2.2.2.1, fun k g hk hσ => ?_⟩⟩
    by_cases z : i = k
    · subst z
      have hl : i < env.length := by
        have := (List.getElem?_eq_some_iff.mp hk).1
        rwa [List.length_set] at this
      rw [List.getElem?_set_self hl] at hk
      rw [List.getElem?_set_self (by rw [← r.len]; exact hl)] at hσ
      exact h2 g x (Option.some.inj hk) (Option.some.inj hσ) j φ he hx
    · rw [List.getElem?_set_ne z] at hk hσ
      exact (h x hx).2.2.2.2 k g hk hσ
theorem R.lnE (r : R K B F0 M T env σ H F) {i : Nat} {s' : Sl} (h1 : ∀ φ, s' ≠ .ln φ) (h2 : (∀ g, s' ≠ .og g) ∨ ∃ g, env[i]? = some (.og g)) :
    ∀ (j : Nat) φ, (env.set i s')[j]? = some (.ln φ) → (∃ v, σ[j]? = some (some v) ∧ φ.at_ K H F v) ∧ (∀ x ∈ φ.A, (∃ o, H x = some o) ∧ F x = none ∧ (φ.own = true → B x = none) ∧ ¬ T x ∧ ∀ (k : Nat) g, (env.set i s')[k]? = some (.og g) → σ[k]? ≠ some (some (.ref x))) ∧ env[j]? = some (.ln φ) := fun j φ he => by
  by_cases q : i = j
  · subst q
    have hl : i < env.length := by
      have := (List.getElem?_eq_some_iff.mp he).1
      rwa [List.length_set] at this
    rw [List.getElem?_set_self hl] at he
    exact absurd (Option.some.inj he) (h1 φ)
  · rw [List.getElem?_set_ne q] at he
    obtain ⟨hv, h⟩ := r.ln j φ he
    refine ⟨hv, fun x hx => ⟨(h x hx).1, (h x hx).2.1, (h x hx).2.2.1, (h x hx).2.2.2.1, fun k g hk hσ => ?_⟩, he⟩
    by_cases z : i = k
    · subst z
      have hl : i < env.length := by
        have := (List.getElem?_eq_some_iff.mp hk).1
        rwa [List.length_set] at this
      rw [List.getElem?_set_self hl] at hk
      rcases h2 with h2 | ⟨g', h2⟩
      · exact h2 g (Option.some.inj hk)
      · exact (h x hx).2.2.2.2 i g' h2 hσ
    · rw [List.getElem?_set_ne z] at hk
      exact (h x hx).2.2.2.2 k g hk hσ
/-- what is not yet there is no part of such a thing -/
theorem R.lnf (r : R K B F0 M T env σ H F) {a : Addr} (h : H a = none) : ∀ (j : Nat) φ, env[j]? = some (.ln φ) → a ∉ φ.A := fun j φ hj ha => by
  obtain ⟨⟨o, z⟩, _⟩ := (r.ln j φ hj).2 a ha
  rw [h] at z; cases z
theorem R.lno (r : R K B F0 M T env σ H F) {i : Nat} {g : Og} {a : Addr} (h : env[i]? = some (.og g)) (hs : σ[i]? = some (some (.ref a))) : ∀ (j : Nat) φ, env[j]? = some (.ln φ) → a ∉ φ.A := fun j φ hj ha =>
  ((r.ln j φ hj).2 a ha).2.2.2.2 i g h hs
theorem lnf_set {env : AE} {i : Nat} {s' : Sl} {a : Addr} (h : ∀ (j : Nat) φ, env[j]? = some (.ln φ) → a ∉ φ.A) (h1 : ∀ φ, s' ≠ .ln φ) : ∀ (j : Nat) φ, (env.set i s')[j]? = some (.ln φ) → a ∉ φ.A := fun j φ he => by
  by_cases q : i = j
  · subst q
    have hl : i < env.length := by
      have := (List.getElem?_eq_some_iff.mp he).1
      rwa [List.length_set] at this
    rw [List.getElem?_set_self hl] at he
    exact absurd (Option.some.inj he) (h1 φ)
  · rw [List.getElem?_set_ne q] at he
    exact h j φ he
theorem R.step (r : R K B F0 M T env σ H F) (s : Stp T H F H' F') : R K B F0 M T env σ H' F' := by
  refine ⟨r.toGd.step s, r.len, fun i d e => ?_, fun i ds e => ?_, r.ti, fun i ns e => (let ⟨a, h1, h2⟩ := r.sc i ns e; ⟨a, h1, s.ext.seqL h2⟩), r.di, fun i φ e => ?_⟩
  case refine_3 =>
    obtain ⟨⟨v, h1, h2⟩, h3⟩ := r.ln i φ e
    have kp : ∀ x ∈ φ.A, H' x = H x := fun x hx => by
      obtain ⟨⟨o, ho⟩, _, _, nt, _⟩ := h3 x hx
      rw [ho]; exact s.keep x o ho nt
    refine ⟨⟨v, h1, φ.mono h2 kp s.ext⟩, fun x hx => ?_⟩
    obtain ⟨⟨o, ho⟩, hf, hb, nt, hg⟩ := h3 x hx
    refine ⟨⟨o, by rw [kp x hx]; exact ho⟩, ?_, hb, nt, hg⟩
    cases q : F' x with
    | none => rfl
    | some u =>
      rcases s.new x u q with z | z
      · rw [hf] at z; cases z
      · rw [ho] at z; cases z
  · obtain ⟨v, h1, h2⟩ := r.va i d e
    exact ⟨v, h1, Rp.sub s.ext _ h2⟩
  · obtain ⟨a, vs, h1, h2, h3, h4, h5, h6⟩ := r.og i ds e
    refine ⟨a, vs, h1, s.keep a _ h2 h5, ?_, h4, h5, h6.sub s.ext⟩
    cases q : F' a with
    | none => rfl
    | some o =>
      rcases s.new a o q with z | z
      · rw [h3] at z; cases z
      · rw [h2] at z; cases z
/-- a datum is stored -/
theorem R.put {i : Nat} {v : V} {d : DD} (r : R K B F0 M T env σ H F) (h : Rp K F v d) (s' : Sl) (hs : s' = .va d) : R K B F0 M T (env.set i s') (σ.set i (some v)) H F := by
  subst hs
  refine ⟨r.toGd, by rw [List.length_set, List.length_set]; exact r.len, fun j e he => ?_, fun j ds he => ?_, fun j kk he => ?_, fun j ns he => ?_, fun j k ds es a h1 h2 h3 h4 => ?_, r.lnS (fun φ z => by cases z) (fun g a z => by cases z)⟩
  · by_cases q : i = j
    · subst q
      have hl : i < env.length := by
        have := (List.getElem?_eq_some_iff.mp he).1
        rwa [List.length_set] at this
      rw [List.getElem?_set_self hl] at he
      cases he
      exact ⟨v, List.getElem?_set_self (by rw [← r.len]; exact hl), h⟩
    · rw [List.getElem?_set_ne q] at he ⊢
      exact r.va j e he
  · by_cases q : i = j
    · subst q
      have hl : i < env.length := by
        have := (List.getElem?_eq_some_iff.mp he).1
        rwa [List.length_set] at this
      rw [List.getElem?_set_self hl] at he
      cases he
    · rw [List.getElem?_set_ne q] at he ⊢
      exact r.og j ds he
  · by_cases q : i = j
    · subst q
      have hl : i < env.length := by
        have := (List.getElem?_eq_some_iff.mp he).1
        rwa [List.length_set] at this
      rw [List.getElem?_set_self hl] at he
      cases he
    · rw [List.getElem?_set_ne q] at he ⊢
      exact r.ti j kk he
  · by_cases q : i = j
    · subst q
      have hl : i < env.length := by
        have := (List.getElem?_eq_some_iff.mp he).1
        rwa [List.length_set] at this
      rw [List.getElem?_set_self hl] at he
      cases he
    · rw [List.getElem?_set_ne q] at he ⊢
      exact r.sc j ns he
  · have ne : ∀ {j : Nat} {ds : Og}, (env.set i (.va d))[j]? = some (.og ds) → i ≠ j := fun {j ds} he q => by
      subst q
      have hl : i < env.length := by
        have := (List.getElem?_eq_some_iff.mp he).1
        rwa [List.length_set] at this
      rw [List.getElem?_set_self hl] at he
      cases he
    have n1 := ne h1
    have n2 := ne h2
    rw [List.getElem?_set_ne n1] at h1 h3
    rw [List.getElem?_set_ne n2] at h2 h4
    exact r.di j k ds es a h1 h2 h3 h4
/-- an own list is stored: new at its address -/
theorem R.putG {i : Nat} {a : Addr} {vs : HO} {ds : Og} (r : R K B F0 M T env σ H F) (h1 : H a = some vs) (h2 : F a = none) (h3 : B a = none) (h4 : ¬ T a) (h5 : OgRp K F a vs ds)
    (hn : ∀ (j : Nat) es, j ≠ i → env[j]? = some (.og es) → σ[j]? ≠ some (some (.ref a))) (hl : ∀ (j : Nat) φ, env[j]? = some (.ln φ) → a ∉ φ.A) : R K B F0 M T (env.set i (.og ds)) (σ.set i (some (.ref a))) H F := by
  have at_ : ∀ {j : Nat} {s : Sl}, (env.set i (.og ds))[j]? = some s → (i = j ∧ s = .og ds ∧ i < env.length) ∨ (i ≠ j ∧ env[j]? = some s) := fun {j s} he => by
    by_cases q : i = j
    · subst q
      have hl : i < env.length := by
        have := (List.getElem?_eq_some_iff.mp he).1
        rwa [List.length_set] at this
      rw [List.getElem?_set_self hl] at he
      cases he
      exact .inl ⟨rfl, rfl, hl⟩
    · rw [List.getElem?_set_ne q] at he
      exact .inr ⟨q, he⟩
  refine ⟨r.toGd, by rw [List.length_set, List.length_set]; exact r.len, fun j e he => ?_, fun j es he => ?_, fun j kk he => ?_, fun j ns he => ?_, fun j k es fs b g1 g2 g3 g4 => ?_, r.lnS (fun φ z => by cases z) (fun g c _ e => by cases e; exact hl)⟩
  · rcases at_ he with ⟨_, q, _⟩ | ⟨q, he⟩
    · cases q
    · rw [List.getElem?_set_ne q]
      exact r.va j e he
  · rcases at_ he with ⟨q, q', hl⟩ | ⟨q, he⟩
    · subst q; cases q'
      exact ⟨a, vs, List.getElem?_set_self (by rw [← r.len]; exact hl), h1, h2, h3, h4, h5⟩
    · rw [List.getElem?_set_ne q]
      exact r.og j es he
  · rcases at_ he with ⟨_, q, _⟩ | ⟨q, he⟩
    · cases q
    · rw [List.getElem?_set_ne q]
      exact r.ti j kk he
  · rcases at_ he with ⟨_, q, _⟩ | ⟨q, he⟩
    · cases q
    · rw [List.getElem?_set_ne q]
      exact r.sc j ns he
  · rcases at_ g1 with ⟨q, _, hl⟩ | ⟨q, g1⟩
    · rcases at_ g2 with ⟨q2, _, _⟩ | ⟨q2, g2⟩
      · rw [← q, ← q2]
      · subst q
        rw [List.getElem?_set_self (by rw [← r.len]; exact hl)] at g3
        rw [List.getElem?_set_ne q2] at g4
        have e : a = b := by
          have := Option.some.inj (Option.some.inj g3)
          injection this
        subst e
        exact absurd g4 (hn k fs (Ne.symm q2) g2)
    · rcases at_ g2 with ⟨q2, _, hl⟩ | ⟨q2, g2⟩
      · subst q2
        rw [List.getElem?_set_self (by rw [← r.len]; exact hl)] at g4
        rw [List.getElem?_set_ne q] at g3
        have e : a = b := by
          have := Option.some.inj (Option.some.inj g4)
          injection this
        subst e
        exact absurd g3 (hn j es (Ne.symm q) g1)
      · rw [List.getElem?_set_ne q] at g3
        rw [List.getElem?_set_ne q2] at g4
        exact r.di j k es fs b g1 g2 g3 g4
theorem R.putO {i : Nat} {a : Addr} {vs : List V} {ds : List DD} (r : R K B F0 M T env σ H F) (h1 : H a = some (.lst vs)) (h2 : F a = none) (h3 : B a = none) (h4 : ¬ T a) (h5 : RpAll K F vs ds)
    (hn : ∀ (j : Nat) es, j ≠ i → env[j]? = some (.og es) → σ[j]? ≠ some (some (.ref a))) (hl : ∀ (j : Nat) φ, env[j]? = some (.ln φ) → a ∉ φ.A) : R K B F0 M T (env.set i (.ow ds)) (σ.set i (some (.ref a))) H F := r.putG h1 h2 h3 h4 (.lst h5) hn hl
/-- the settled part at the entry moved to what is settled now, and back -/
theorem R.base (r : R K B F0 M T env σ H F) : R K B F M T env σ H F := ⟨⟨r.sub, Sub.refl F, fun a o h => .inl h, r.keep, r.tw, r.mt⟩, r.len, r.va, r.og, r.ti, r.sc, r.di, r.ln⟩
theorem Gd.back {F1 H1 : Hp} {T1 : Tws K} (g : Gd B F0 M T1 H1 F1) (r : Gd B F1 M T H F) : Gd B F0 M T H F := ⟨r.sub, g.f0.trans r.f0, fun a o h => by
  rcases r.new a o h with z | z
  · exact g.new a o z
  · exact .inr z, r.keep, r.tw, r.mt⟩
theorem R.back {F1 H1 : Hp} {T1 : Tws K} (g : Gd B F0 M T1 H1 F1) (r : R K B F1 M T env σ H F) : R K B F0 M T env σ H F := ⟨g.back r.toGd, r.len, r.va, r.og, r.ti, r.sc, r.di, r.ln⟩
end
abbrev AEx := AE → (DD → Prop) → Prop
abbrev AOx := AE → (List DD → Prop) → Prop
abbrev ATx := AE → (Bool → Prop) → Prop
structure AEnds where
  nx : AE → Prop
  rt : DD → Prop
  bk : AE → Prop := fun _ => False
  ct : AE → Prop := fun _ => False
  /-- a new list handed back -/
  rtO : List DD → Prop := fun _ => False
  /-- a datum handed back, with what the slots know then -/
  rtE : DD → AE → Prop := fun _ _ => False
abbrev ASx := AEnds → AE → Prop
def SimE (K : KW) (t : TE) (α : AEx) : Prop := ∀ B F0 M T env σ H F, R K B F0 M T env σ H F → ∀ P, α env P → ∀ Q : VK, (∀ v d H' F', Stp T H F H' F' → Rp K F' v d → P d → Q v H') → t σ H Q
/-- a new list, not settled -/
def SimO (K : KW) (t : TE) (α : AOx) : Prop := ∀ B F0 M T env σ H F, R K B F0 M T env σ H F → ∀ P, α env P → ∀ Q : VK, (∀ a vs ds H' F', Stp T H F H' F' → H' a = some (.lst vs) → F' a = none → H a = none → RpAll K F' vs ds → P ds → Q (.ref a) H') → t σ H Q
def SimT (K : KW) (t : TT) (α : ATx) : Prop := ∀ B F0 M T env σ H F, R K B F0 M T env σ H F → ∀ P, α env P → ∀ Q : Bool → Hp → Prop, (∀ b H' F', Stp T H F H' F' → P b → Q b H') → t σ H Q
def SimD (K : KW) (t : TA) (α : AOx) : Prop := ∀ B F0 M T env σ H F, R K B F0 M T env σ H F → ∀ P, α env P → ∀ Q : List V → Hp → Prop, (∀ vs ds H' F', Stp T H F H' F' → RpAll K F' vs ds → P ds → Q vs H') → t σ H Q
inductive Arg (K : KW) (T : Tws K) (F : Hp) : V → Sl → Prop
  | va {v d} : Rp K F v d → Arg K T F v (.va d)
  | ty {a k} : T a → T.kd a = k → Arg K T F (.ref a) (.ty k)
  | sc {a ns} : SqL K F a (ns.map V.int) → Arg K T F (.ref a) (.sc ns)
  | ln {v φ} {H : Hp} : φ.A = [] → φ.at_ K H F v → Arg K T F v (.ln φ)
theorem Arg.sub {K : KW} {T : Tws K} {F H : Hp} {v : V} {s : Sl} (e : Sub F H) : Arg K T F v s → Arg K T H v s
  | .va h => .va (Rp.sub e _ h)
  | .ty t e => .ty t e
  | .sc h => .sc (e.seqL h)
  | @Arg.ln _ _ _ v φ G a h => .ln (H := G) a (φ.mono h (fun _ _ => rfl) e)
theorem Arg.lnAt {K : KW} {T : Tws K} {F : Hp} {v : V} {φ : LnT} (h : Arg K T F v (.ln φ)) : φ.A = [] ∧ ∀ H, φ.at_ K H F v := by
  cases h with | ln a b => exact ⟨a, fun H => φ.mono b (fun x hx => absurd hx (by rw [a]; simp)) fun _ _ h => h⟩
def SimA (K : KW) (t : TA) (α : AE → (AE → Prop) → Prop) : Prop := ∀ B F0 M T env σ H F, R K B F0 M T env σ H F → ∀ P, α env P → ∀ Q : List V → Hp → Prop, (∀ vs as H' F', Stp T H F H' F' → Paired (Arg K T F') vs as → P as → Q vs H') → t σ H Q
structure Lk (K : KW) (B F0 : Hp) (M : Tws K) (A : AEnds) (D : Ends) : Prop where
  nx : ∀ T env σ H F, R K B F0 M T env σ H F → A.nx env → D.nx σ H
  rt : ∀ T v d H F, Gd B F0 M T H F → Rp K F v d → A.rt d → D.rt v H
  bk : ∀ T env σ H F, R K B F0 M T env σ H F → A.bk env → D.bk σ H
  ct : ∀ T env σ H F, R K B F0 M T env σ H F → A.ct env → D.ct σ H
  rtO : ∀ T a ds H F, Gd B F0 M T H F → Rp K F (.ref a) (.list ds) → B a = none → A.rtO ds → D.rt (.ref a) H
  rtE : ∀ T v d env σ H F, R K B F0 M T env σ H F → Rp K F v d → A.rtE d env → D.rt v H
def SimS (K : KW) (t : TS) (a : ASx) : Prop := ∀ B F0 M T env σ H F, R K B F0 M T env σ H F → ∀ A D, Lk K B F0 M A D → a A env → t D σ H
/-- a target -/
def SimG (K : KW) (g : TG) (γ : DD → AE → (AE → Prop) → Prop) : Prop := ∀ B F0 M T env σ H F, R K B F0 M T env σ H F → ∀ v d, Rp K F v d → ∀ P, γ d env P → ∀ Q : L2.St → Hp → Prop, (∀ env' σ' H' F', Stp T H F H' F' → R K B F0 M T env' σ' H' F' → P env' → Q σ' H') → g v σ H Q
def SimGs (K : KW) (g : TGs) (γ : List DD → AE → (AE → Prop) → Prop) : Prop := ∀ B F0 M T env σ H F, R K B F0 M T env σ H F → ∀ vs ds, RpAll K F vs ds → ∀ P, γ ds env P → ∀ Q : L2.St → Hp → Prop, (∀ env' σ' H' F', Stp T H F H' F' → R K B F0 M T env' σ' H' F' → P env' → Q σ' H') → g vs σ H Q
structure JE (X : Cx) (e : Expr) (α : AEx) : Prop where ex : ∃ t, PE X e t ∧ SimE (kw X) t α
structure JO (X : Cx) (e : Expr) (α : AOx) : Prop where ex : ∃ t, PE X e t ∧ SimO (kw X) t α
structure JT (X : Cx) (e : Expr) (α : ATx) : Prop where ex : ∃ t, PT X e t ∧ SimT (kw X) t α
structure JW (X : Cx) (e : Expr) (α : ATx) : Prop where ex : ∃ t, PW X e t ∧ SimT (kw X) t α
structure JD (X : Cx) (es : List Expr) (α : AOx) : Prop where ex : ∃ t, PA X es t ∧ SimD (kw X) t α
structure JA (X : Cx) (es : List Expr) (α : AE → (AE → Prop) → Prop) : Prop where ex : ∃ t, PA X es t ∧ SimA (kw X) t α
structure JS (X : Cx) (s : Stmt) (a : ASx) : Prop where ex : ∃ t, PS X s t ∧ SimS (kw X) t a
structure JSs (X : Cx) (s : List Stmt) (a : ASx) : Prop where ex : ∃ t, PSs X s t ∧ SimS (kw X) t a
structure JG (X : Cx) (e : Expr) (γ : DD → AE → (AE → Prop) → Prop) : Prop where ex : ∃ g, PG X e g ∧ SimG (kw X) g γ
structure JGs (X : Cx) (e : List Expr) (γ : List DD → AE → (AE → Prop) → Prop) : Prop where ex : ∃ g, PGs X e g ∧ SimGs (kw X) g γ
/-- operations by values -/
def SimR (K : KW) (r : R2) (ρ : DD → DD → (DD → Prop) → Prop) : Prop := ∀ (T : Tws K) (H F : Hp) x y dx dy, Bs T H F → Rp K F x dx → Rp K F y dy → ∀ P, ρ dx dy P → ∀ Q : VK, (∀ v d H' F', Stp T H F H' F' → Rp K F' v d → P d → Q v H') → r x y H Q
def SimRO (K : KW) (r : R2) (ρ : DD → DD → (List DD → Prop) → Prop) : Prop := ∀ (T : Tws K) (H F : Hp) x y dx dy, Bs T H F → Rp K F x dx → Rp K F y dy → ∀ P, ρ dx dy P → ∀ Q : VK, (∀ a vs ds H' F', Stp T H F H' F' → H' a = some (.lst vs) → F' a = none → H a = none → RpAll K F' vs ds → P ds → Q (.ref a) H') → r x y H Q
def SimC (K : KW) (r : List V → Hp → VK → Prop) (ρ : List DD → (DD → Prop) → Prop) : Prop := ∀ (T : Tws K) (H F : Hp) vs ds, Bs T H F → RpAll K F vs ds → ∀ P, ρ ds P → ∀ Q : VK, (∀ v d H' F', Stp T H F H' F' → Rp K F' v d → P d → Q v H') → r vs H Q
def SimCO (K : KW) (r : List V → Hp → VK → Prop) (ρ : List DD → (List DD → Prop) → Prop) : Prop := ∀ (T : Tws K) (H F : Hp) vs ds, Bs T H F → RpAll K F vs ds → ∀ P, ρ ds P → ∀ Q : VK, (∀ a vs ds H' F', Stp T H F H' F' → H' a = some (.lst vs) → F' a = none → H a = none → RpAll K F' vs ds → P ds → Q (.ref a) H') → r vs H Q
section
variable {X : Cx} {e a b c : Expr} {es : List Expr} {pos : Pos} {α β γ : AEx} {τ υ : ATx}
def aV (i : Nat) : AEx := fun env P => ∃ d, env[i]? = some (.va d) ∧ P d
def aC (d : DD) : AEx := fun _ P => P d
theorem jv (i : Nat) {x : Str} {pos : Pos} (hN : X.N[i]? = some x := by rfl) (hv : Vis X.env.scope x := by first | exact Or.inl rfl | exact Or.inr (Or.inl rfl) | exact Or.inr (Or.inr rfl)) (hd : (x == ("__debug__" : Str)) = false := by decide)
    (hcd : (x == ("__classdict__" : Str)) = false := by decide) : JE X (.Name x pos) (aV i) := ⟨_, pe_var hN hv hd hcd, fun B F0 M T env σ H F r P h Q q => by
  obtain ⟨d, e, h⟩ := h
  obtain ⟨v, e1, h1⟩ := r.va i d e
  exact ⟨v, e1, q v d H F (.refl r.bs) h1 h⟩⟩
theorem sim_c {K : KW} {v : V} {d : DD} (h : ∀ F, Rp K F v d) : SimE K (tC v) (aC d) := fun B F0 M T env σ H F r P p Q q => q v d H F (.refl r.bs) (h F) p
theorem j_int {i j} : JE X (.Constant (.int i) j pos) (aC (.int i)) := ⟨_, pe_int, sim_c fun _ => .int i⟩
theorem j_bl {b j} : JE X (.Constant (.bool b) j pos) (aC (.bool b)) := ⟨_, pe_bl, sim_c fun _ => .bl b⟩
theorem j_non {j} : JE X (.Constant .none j pos) (aC .none) := ⟨_, pe_non, sim_c fun _ => .non⟩
theorem j_str {x j} : JE X (.Constant (.str x) j pos) (aC (.str x)) := ⟨_, pe_str, sim_c fun _ => .str x⟩
/-- a new list, settled at once -/
theorem SimO.se {K : KW} {t : TE} {α : AOx} (h : SimO K t α) : SimE K t (fun env P => α env fun ds => P (.list ds)) := fun B F0 M T env σ H F r P p Q q =>
  h B F0 M T env σ H F r _ p Q fun a vs ds H' F' s h1 h2 h3 h4 p' => q (.ref a) (.list ds) H' (upd F' a (.lst vs)) (s.fz h3 h1 h2) (.lst upd_same (RpAll.sub (sub_upd h2) _ h4)) p'
def aO (α : AOx) : AEx := fun env P => α env fun ds => P (.list ds)
theorem JO.je {α : AOx} (h : JO X e α) : JE X e (aO α) := by
  obtain ⟨t, h1, h2⟩ := h.ex
  exact ⟨t, h1, h2.se⟩
def aB (ρ : DD → DD → (DD → Prop) → Prop) (α β : AEx) : AEx := fun env P => α env fun x => β env fun y => ρ x y P
def aBO (ρ : DD → DD → (List DD → Prop) → Prop) (α β : AEx) : AOx := fun env P => α env fun x => β env fun y => ρ x y P
theorem sim_op {K : KW} {r : R2} {ρ : DD → DD → (DD → Prop) → Prop} {ta tb : TE} (hr : SimR K r ρ) (ha : SimE K ta α) (hb : SimE K tb β) : SimE K (tOp r ta tb) (aB ρ α β) := fun B F0 M T env σ H F R0 P p Q q =>
  ha B F0 M T env σ H F R0 _ p _ fun v d H1 F1 s1 d1 p1 => hb B F0 M T env σ H1 F1 (R0.step s1) _ p1 _ fun w e H2 F2 s2 d2 p2 =>
    hr T H2 F2 v w d e ((R0.step s1).step s2).bs (Rp.sub s2.ext _ d1) d2 _ p2 Q fun z f H3 F3 s3 d3 p3 => q z f H3 F3 ((s1.trans s2).trans s3) d3 p3
theorem sim_opO {K : KW} {r : R2} {ρ : DD → DD → (List DD → Prop) → Prop} {ta tb : TE} (hr : SimRO K r ρ) (ha : SimE K ta α) (hb : SimE K tb β) : SimO K (tOp r ta tb) (aBO ρ α β) := fun B F0 M T env σ H F R0 P p Q q =>
  ha B F0 M T env σ H F R0 _ p _ fun v d H1 F1 s1 d1 p1 => hb B F0 M T env σ H1 F1 (R0.step s1) _ p1 _ fun w e H2 F2 s2 d2 p2 =>
    hr T H2 F2 v w d e ((R0.step s1).step s2).bs (Rp.sub s2.ext _ d1) d2 _ p2 Q fun z vs ds H3 F3 s3 h1 h2 h3 d3 p3 => q z vs ds H3 F3 ((s1.trans s2).trans s3) h1 h2 (s1.dom (s2.dom h3)) d3 p3
theorem j_op {op : Operator} {r : R2} {ρ : DD → DD → (DD → Prop) → Prop} (ho : OpR X (binaryOp op) r) (hr : SimR (kw X) r ρ) (ha : JE X a α) (hb : JE X b β) : JE X (.BinOp a op b pos) (aB ρ α β) := by
  obtain ⟨ta, a1, a2⟩ := ha.ex
  obtain ⟨tb, b1, b2⟩ := hb.ex
  exact ⟨_, pe_op ho a1 b1, sim_op hr a2 b2⟩
theorem j_opO {op : Operator} {r : R2} {ρ : DD → DD → (List DD → Prop) → Prop} (ho : OpR X (binaryOp op) r) (hr : SimRO (kw X) r ρ) (ha : JE X a α) (hb : JE X b β) : JO X (.BinOp a op b pos) (aBO ρ α β) := by
  obtain ⟨ta, a1, a2⟩ := ha.ex
  obtain ⟨tb, b1, b2⟩ := hb.ex
  exact ⟨_, pe_op ho a1 b1, sim_opO hr a2 b2⟩
theorem j_cmp {op : CmpOp} {r : R2} {ρ : DD → DD → (DD → Prop) → Prop} (ho : OpR X (compareOp op) r) (hr : SimR (kw X) r ρ) (ha : JE X a α) (hb : JE X b β) (hm : behindInMarks op b = false) : JE X (.Compare a [op] [b] pos) (aB ρ α β) := by
  obtain ⟨ta, a1, a2⟩ := ha.ex
  obtain ⟨tb, b1, b2⟩ := hb.ex
  exact ⟨_, pe_cmpR ho a1 b1 hm, sim_op hr a2 b2⟩
def aT (α : AEx) : ATx := fun env P => α env fun x => ∃ k, x = .bool k ∧ P k
theorem sim_test {K : KW} {te : TE} (h : SimE K te α) : SimT K (tTest te) (aT α) := fun B F0 M T env σ H F R0 P p Q q =>
  h B F0 M T env σ H F R0 _ p _ fun v d H1 F1 s1 d1 p1 => by
    obtain ⟨k, e, p1⟩ := p1
    subst e
    cases d1
    exact ⟨k, rfl, q k H1 F1 s1 p1⟩
theorem jt_cmp {op : CmpOp} {r : R2} {ρ : DD → DD → (DD → Prop) → Prop} (ho : OpR X (compareOp op) r) (hr : SimR (kw X) r ρ) (ha : JE X a α) (hb : JE X b β) (hm : behindInMarks op b = false) : JT X (.Compare a [op] [b] pos) (aT (aB ρ α β)) := by
  obtain ⟨ta, a1, a2⟩ := ha.ex
  obtain ⟨tb, b1, b2⟩ := hb.ex
  exact ⟨_, pt_cmpR ho a1 b1 hm, sim_test (sim_op hr a2 b2)⟩
/-- an expression whose value is a bool, as a test -/
theorem jt_val (h : JE X e α) (he : ∀ whole, isTrue e X.env whole = (do let v ← whole; standAt e.pos; holding [v] (truthy v)) := by intro _; rfl) : JT X e (aT α) := by
  obtain ⟨t, h1, h2⟩ := h.ex
  exact ⟨_, pt_val h1 he, sim_test h2⟩
def aAnd (τ υ : ATx) : ATx := fun env P => τ env fun k => (k = true → υ env P) ∧ (k = false → P false)
def aOr (τ υ : ATx) : ATx := fun env P => τ env fun k => (k = true → P true) ∧ (k = false → υ env P)
def aNot (τ : ATx) : ATx := fun env P => τ env fun k => P (!k)
theorem sim_and {K : KW} {t u : TT} (h1 : SimT K t τ) (h2 : SimT K u υ) : SimT K (tAnd t u) (aAnd τ υ) := fun B F0 M T env σ H F R0 P p Q q =>
  h1 B F0 M T env σ H F R0 _ p _ fun k H1 F1 s1 p1 => by
    cases k with
    | true => exact (if_pos rfl).mpr (h2 B F0 M T env σ H1 F1 (R0.step s1) _ (p1.1 rfl) Q fun b H2 F2 s2 p2 => q b H2 F2 (s1.trans s2) p2)
    | false => exact (if_neg Bool.false_ne_true).mpr (q false H1 F1 s1 (p1.2 rfl))
theorem sim_or {K : KW} {t u : TT} (h1 : SimT K t τ) (h2 : SimT K u υ) : SimT K (tOr t u) (aOr τ υ) := fun B F0 M T env σ H F R0 P p Q q =>
  h1 B F0 M T env σ H F R0 _ p _ fun k H1 F1 s1 p1 => by
    cases k with
    | true => exact (if_pos rfl).mpr (q true H1 F1 s1 (p1.1 rfl))
    | false => exact (if_neg Bool.false_ne_true).mpr (h2 B F0 M T env σ H1 F1 (R0.step s1) _ (p1.2 rfl) Q fun b H2 F2 s2 p2 => q b H2 F2 (s1.trans s2) p2)
theorem jw_and1 {p : Pos} (h : JT X a τ) : JW X (.BoolOp .And [a] p) τ := by
  obtain ⟨t, h1, h2⟩ := h.ex
  exact ⟨_, pw_and1 h1, h2⟩
theorem jw_or1 {p : Pos} (h : JT X a τ) : JW X (.BoolOp .Or [a] p) τ := by
  obtain ⟨t, h1, h2⟩ := h.ex
  exact ⟨_, pw_or1 h1, h2⟩
theorem jw_and {p : Pos} (h : JT X a τ) (g : JW X (.BoolOp .And (b :: es) p) υ) : JW X (.BoolOp .And (a :: b :: es) p) (aAnd τ υ) := by
  obtain ⟨t, h1, h2⟩ := h.ex
  obtain ⟨u, g1, g2⟩ := g.ex
  exact ⟨_, pw_and h1 g1, sim_and h2 g2⟩
theorem jw_or {p : Pos} (h : JT X a τ) (g : JW X (.BoolOp .Or (b :: es) p) υ) : JW X (.BoolOp .Or (a :: b :: es) p) (aOr τ υ) := by
  obtain ⟨t, h1, h2⟩ := h.ex
  obtain ⟨u, g1, g2⟩ := g.ex
  exact ⟨_, pw_or h1 g1, sim_or h2 g2⟩
theorem JW.t (h : JW X e τ) : JT X e τ := by
  obtain ⟨t, h1, h2⟩ := h.ex
  exact ⟨_, h1.pt, h2⟩
theorem jt_not {p : Pos} (h : JT X a τ) : JT X (.UnaryOp .Not a p) (aNot τ) := by
  obtain ⟨t, h1, h2⟩ := h.ex
  exact ⟨_, pt_not h1, fun B F0 M T env σ H F R0 P p Q q => h2 B F0 M T env σ H F R0 _ p _ fun k H1 F1 s1 p1 => q (!k) H1 F1 s1 p1⟩
def aAndV (α β : AEx) : AEx := fun env P => α env fun x => ∃ k, x = .bool k ∧ (k = true → β env P) ∧ (k = false → P (.bool false))
def aOrV (α β : AEx) : AEx := fun env P => α env fun x => ∃ k, x = .bool k ∧ (k = true → P (.bool true)) ∧ (k = false → β env P)
def aNotV (α : AEx) : AEx := fun env P => α env fun x => ∃ k, x = .bool k ∧ P (.bool (!k))
theorem je_one {op} {p : Pos} (h : JE X a α) : JE X (.BoolOp op [a] p) α := by
  obtain ⟨t, h1, h2⟩ := h.ex
  exact ⟨_, pe_one h1, h2⟩
theorem je_and {p : Pos} (h : JE X a α) (g : JE X (.BoolOp .And (b :: es) p) β) : JE X (.BoolOp .And (a :: b :: es) p) (aAndV α β) := by
  obtain ⟨t, h1, h2⟩ := h.ex
  obtain ⟨u, g1, g2⟩ := g.ex
  refine ⟨_, pe_and h1 g1, fun B F0 M T env σ H F R0 P p Q q => h2 B F0 M T env σ H F R0 _ p _ fun v d H1 F1 s1 d1 p1 => ?_⟩
  obtain ⟨k, e, p1, p2⟩ := p1
  subst e
  cases d1
  refine ⟨k, rfl, ?_⟩
  cases k with
  | true => exact (if_pos rfl).mpr (g2 B F0 M T env σ H1 F1 (R0.step s1) _ (p1 rfl) Q fun b d H2 F2 s2 d2 p2 => q b d H2 F2 (s1.trans s2) d2 p2)
  | false => exact (if_neg Bool.false_ne_true).mpr (q _ _ H1 F1 s1 (.bl false) (p2 rfl))
theorem je_or {p : Pos} (h : JE X a α) (g : JE X (.BoolOp .Or (b :: es) p) β) : JE X (.BoolOp .Or (a :: b :: es) p) (aOrV α β) := by
  obtain ⟨t, h1, h2⟩ := h.ex
  obtain ⟨u, g1, g2⟩ := g.ex
  refine ⟨_, pe_or h1 g1, fun B F0 M T env σ H F R0 P p Q q => h2 B F0 M T env σ H F R0 _ p _ fun v d H1 F1 s1 d1 p1 => ?_⟩
  obtain ⟨k, e, p1, p2⟩ := p1
  subst e
  cases d1
  refine ⟨k, rfl, ?_⟩
  cases k with
  | true => exact (if_pos rfl).mpr (q _ _ H1 F1 s1 (.bl true) (p1 rfl))
  | false => exact (if_neg Bool.false_ne_true).mpr (g2 B F0 M T env σ H1 F1 (R0.step s1) _ (p2 rfl) Q fun b d H2 F2 s2 d2 p2 => q b d H2 F2 (s1.trans s2) d2 p2)
def aIf (τ : ATx) (α β : AEx) : AEx := fun env P => τ env fun k => (k = true → α env P) ∧ (k = false → β env P)
theorem je_if {p : Pos} (h : JT X c τ) (ha : JE X a α) (hb : JE X b β) : JE X (.IfExp c a b p) (aIf τ α β) := by
  obtain ⟨t, h1, h2⟩ := h.ex
  obtain ⟨ta, a1, a2⟩ := ha.ex
  obtain ⟨tb, b1, b2⟩ := hb.ex
  refine ⟨_, pe_ifExp h1 a1 b1, fun B F0 M T env σ H F R0 P p Q q => h2 B F0 M T env σ H F R0 _ p _ fun k H1 F1 s1 p1 => ?_⟩
  cases k with
  | true => exact (if_pos rfl).mpr (a2 B F0 M T env σ H1 F1 (R0.step s1) _ (p1.1 rfl) Q fun b d H2 F2 s2 d2 p2 => q b d H2 F2 (s1.trans s2) d2 p2)
  | false => exact (if_neg Bool.false_ne_true).mpr (b2 B F0 M T env σ H1 F1 (R0.step s1) _ (p1.2 rfl) Q fun b d H2 F2 s2 d2 p2 => q b d H2 F2 (s1.trans s2) d2 p2)
/-- a op1 b op2 c -/
def aChain (ρ ρ' : DD → DD → (DD → Prop) → Prop) (α β γ : AEx) : AEx := fun env P => α env fun x => β env fun y => ρ x y fun z => ∃ k, z = .bool k ∧ (k = true → γ env fun w => ρ' y w P) ∧ (k = false → P (.bool false))
def dNil : AOx := fun _ P => P []
def dCons (α : AEx) (δ : AOx) : AOx := fun env P => α env fun x => δ env fun xs => P (x :: xs)
theorem jd_nil : JD X [] dNil := ⟨_, pa_nil, fun B F0 M T env σ H F R0 P p Q q => q [] [] H F (.refl R0.bs) .nil p⟩
theorem jd_cons {δ : AOx} (h : JE X e α) (g : JD X es δ) (hs : starEach (e :: es) X.env = (false, eval e X.env) :: starEach es X.env := by rfl) : JD X (e :: es) (dCons α δ) := by
  obtain ⟨t, h1, h2⟩ := h.ex
  obtain ⟨u, g1, g2⟩ := g.ex
  exact ⟨_, pa_cons h1 g1 hs, fun B F0 M T env σ H F R0 P p Q q => h2 B F0 M T env σ H F R0 _ p _ fun v d H1 F1 s1 d1 p1 => g2 B F0 M T env σ H1 F1 (R0.step s1) _ p1 _ fun vs ds H2 F2 s2 d2 p2 =>
    q (v :: vs) (d :: ds) H2 F2 (s1.trans s2) (.cons (Rp.sub s2.ext _ d1) d2) p2⟩
def gNilA : AE → (AE → Prop) → Prop := fun _ P => P []
def gConsA (α : AEx) (δ : AE → (AE → Prop) → Prop) : AE → (AE → Prop) → Prop := fun env P => α env fun x => δ env fun xs => P (.va x :: xs)
def gTownA (i : Nat) (δ : AE → (AE → Prop) → Prop) : AE → (AE → Prop) → Prop := fun env P => env[i]? = some .tw ∧ δ env fun xs => P (.tw :: xs)
theorem ja_nil : JA X [] gNilA := ⟨_, pa_nil, fun B F0 M T env σ H F R0 P p Q q => q [] [] H F (.refl R0.bs) .nil p⟩
theorem ja_cons {δ : AE → (AE → Prop) → Prop} (h : JE X e α) (g : JA X es δ) (hs : starEach (e :: es) X.env = (false, eval e X.env) :: starEach es X.env := by rfl) : JA X (e :: es) (gConsA α δ) := by
  obtain ⟨t, h1, h2⟩ := h.ex
  obtain ⟨u, g1, g2⟩ := g.ex
  exact ⟨_, pa_cons h1 g1 hs, fun B F0 M T env σ H F R0 P p Q q => h2 B F0 M T env σ H F R0 _ p _ fun v d H1 F1 s1 d1 p1 => g2 B F0 M T env σ H1 F1 (R0.step s1) _ p1 _ fun vs ds H2 F2 s2 d2 p2 =>
    q (v :: vs) (.va d :: ds) H2 F2 (s1.trans s2) (.cons (.va (Rp.sub s2.ext _ d1)) d2) p2⟩
theorem ja_town {x : Str} (i : Nat) {δ : AE → (AE → Prop) → Prop} (g : JA X es δ) (hN : X.N[i]? = some x := by rfl) (hv : Vis X.env.scope x := by first | exact Or.inl rfl | exact Or.inr (Or.inl rfl) | exact Or.inr (Or.inr rfl)) (hd : (x == ("__debug__" : Str)) = false := by decide)
    (hcd : (x == ("__classdict__" : Str)) = false := by decide) (hs : starEach (.Name x pos :: es) X.env = (false, eval (.Name x pos) X.env) :: starEach es X.env := by rfl) : JA X (.Name x pos :: es) (gTownA i δ) := by
  obtain ⟨u, g1, g2⟩ := g.ex
  refine ⟨_, pa_cons (pe_var hN hv hd hcd) g1 hs, fun B F0 M T env σ H F R0 P p Q q => ?_⟩
  obtain ⟨a, ta, kt, e⟩ := R0.ti i _ p.1
  exact ⟨_, e, g2 B F0 M T env σ H F R0 _ p.2 _ fun vs ds H2 F2 s2 d2 p2 => q (.ref a :: vs) (.tw :: ds) H2 F2 s2 (.cons (.ty ta kt) d2) p2⟩
def gScA (i : Nat) (δ : AE → (AE → Prop) → Prop) : AE → (AE → Prop) → Prop := fun env P => ∃ ns, env[i]? = some (.sc ns) ∧ δ env fun xs => P (.sc ns :: xs)
theorem ja_sc {x : Str} (i : Nat) {δ : AE → (AE → Prop) → Prop} (g : JA X es δ) (hN : X.N[i]? = some x := by rfl) (hv : Vis X.env.scope x := by first | exact Or.inl rfl | exact Or.inr (Or.inl rfl) | exact Or.inr (Or.inr rfl)) (hd : (x == ("__debug__" : Str)) = false := by decide)
    (hcd : (x == ("__classdict__" : Str)) = false := by decide) (hs : starEach (.Name x pos :: es) X.env = (false, eval (.Name x pos) X.env) :: starEach es X.env := by rfl) : JA X (.Name x pos :: es) (gScA i δ) := by
  obtain ⟨u, g1, g2⟩ := g.ex
  refine ⟨_, pa_cons (pe_var hN hv hd hcd) g1 hs, fun B F0 M T env σ H F R0 P p Q q => ?_⟩
  obtain ⟨ns, p1, p2⟩ := p
  obtain ⟨a, e, ha⟩ := R0.sc i ns p1
  exact ⟨_, e, g2 B F0 M T env σ H F R0 _ p2 _ fun vs ds H2 F2 s2 d2 p2 => q (.ref a :: vs) (.sc ns :: ds) H2 F2 s2 (.cons (.sc (s2.ext.seqL ha)) d2) p2⟩
def lineD : Nat := 100000
theorem line_le {n : Nat} (h : n ≤ lineD) : n ≤ sizeLine := Nat.le_trans h (by decide)
theorem line_lt {n : Nat} (h : n < lineD) : n < sizeLine := Nat.lt_of_lt_of_le h (by decide)
def aTup (δ : AOx) : AEx := fun env P => δ env fun ds => ds.length ≤ lineD ∧ P (.tuple ds)
def aLst (δ : AOx) : AOx := fun env P => δ env fun ds => ds.length ≤ lineD ∧ P ds
theorem je_tup {x1} {δ : AOx} (h : JD X es δ) : JE X (.Tuple es x1 pos) (aTup δ) := by
  obtain ⟨t, h1, h2⟩ := h.ex
  exact ⟨_, pe_tup h1, fun B F0 M T env σ H F R0 P p Q q => h2 B F0 M T env σ H F R0 _ p _ fun vs ds H1 F1 s1 d1 p1 => ⟨by rw [RpAll.len d1]; exact line_le p1.1, fun p hp =>
    q (.ref p) (.tuple ds) _ (upd F1 p (.tup vs)) (s1.trans (.al (R0.step s1).bs hp)) (.tup (.inl (.inl upd_same)) (RpAll.sub (Stp.al (o := .tup vs) (R0.step s1).bs hp).ext _ d1)) p1.2⟩⟩
theorem jo_lst {δ : AOx} (h : JD X es δ) : JO X (.List es pos) (aLst δ) := by
  obtain ⟨t, h1, h2⟩ := h.ex
  exact ⟨_, pe_lst h1, fun B F0 M T env σ H F R0 P p Q q => h2 B F0 M T env σ H F R0 _ p _ fun vs ds H1 F1 s1 d1 p1 => ⟨by rw [RpAll.len d1]; exact line_le p1.1, fun p hp =>
    q p vs ds _ F1 (s1.trans (.al0 (R0.step s1).bs hp)) upd_same (by
      cases e : F1 p with
      | none => rfl
      | some o =>
        have z := s1.sub p o e
        rw [hp] at z
        cases z) (s1.dom hp) d1 p1.2⟩⟩
end
end Ab
namespace Ab
open PySem L2
section
variable {K : KW}
def dI (g : Int → Int → DD) : DD → DD → (DD → Prop) → Prop := fun x y P => ∃ i j, x = .int i ∧ y = .int j ∧ P (g i j)
def dIC (C : Int → Int → Prop) (g : Int → Int → DD) : DD → DD → (DD → Prop) → Prop := fun x y P => ∃ i j, x = .int i ∧ y = .int j ∧ C i j ∧ P (g i j)
theorem sr_int {g : Int → Int → Int} : SimR K (rI0 fun i j => .int (g i j)) (dI fun i j => .int (g i j)) := fun T H F x y dx dy b hx hy P p Q q => by
  obtain ⟨i, j, rfl, rfl, p⟩ := p
  cases hx; cases hy
  exact ⟨i, j, rfl, rfl, q _ _ H F (.refl b) (.int _) p⟩
theorem sr_bl {g : Int → Int → Bool} : SimR K (rI0 fun i j => .bl (g i j)) (dI fun i j => .bool (g i j)) := fun T H F x y dx dy b hx hy P p Q q => by
  obtain ⟨i, j, rfl, rfl, p⟩ := p
  cases hx; cases hy
  exact ⟨i, j, rfl, rfl, q _ _ H F (.refl b) (.bl _) p⟩
theorem sr_intC {C : Int → Int → Prop} {g : Int → Int → Int} : SimR K (rI C fun i j => .int (g i j)) (dIC C fun i j => .int (g i j)) := fun T H F x y dx dy b hx hy P p Q q => by
  obtain ⟨i, j, rfl, rfl, c, p⟩ := p
  cases hx; cases hy
  exact ⟨i, j, rfl, rfl, c, q _ _ H F (.refl b) (.int _) p⟩
/-- x[i] -/
def dIx : DD → DD → (DD → Prop) → Prop := fun x y P => ∃ ds i d, (x = .list ds ∨ x = .tuple ds) ∧ y = .int i ∧ atI ds i = some d ∧ P d
theorem atI_data {F : Hp} {vs : List V} {ds : List DD} {i : Int} {d : DD} (h : RpAll K F vs ds) (e : atI ds i = some d) : ∃ v, atI vs i = some v ∧ Rp K F v d := by
  unfold atI at e ⊢
  rw [h.len]
  cases q : ixN ds.length i with
  | none => rw [q] at e; cases e
  | some j =>
    rw [q] at e
    exact h.get e
theorem sr_ix : SimR K (rIx K) dIx := fun T H F x y dx dy b hx hy P p Q q => by
  obtain ⟨ds, i, d, hd, rfl, e, p⟩ := p
  cases hy
  rcases hd with rfl | rfl
  · cases hx with
    | lst h1 h2 =>
      obtain ⟨v, e1, e2⟩ := atI_data h2 e
      exact .inl ⟨_, _, i, v, rfl, rfl, .inl (.inl (b.sub _ _ h1)), e1, q v d H F (.refl b) e2 p⟩
  · cases hx with
    | tup h1 h2 =>
      obtain ⟨v, e1, e2⟩ := atI_data h2 e
      exact .inr (.inl ⟨_, _, i, v, rfl, rfl, b.sub.seqT h1, e1, q v d H F (.refl b) e2 p⟩)
/-- ==, != -/
theorem lay_of {d : DD} (h : SeqAt.shaped d = true) : d.canLay0 = true := by
  unfold SeqAt.shaped at h
  rw [Bool.and_eq_true] at h
  exact h.1
def dEq : DD → DD → (DD → Prop) → Prop := fun x y P => SeqAt.shaped x = true ∧ SeqAt.shaped y = true ∧ P (.bool (PyData.eqv x y))
def dNe : DD → DD → (DD → Prop) → Prop := fun x y P => SeqAt.shaped x = true ∧ SeqAt.shaped y = true ∧ P (.bool (!PyData.eqv x y))
theorem sr_eq : SimR K (rEqD K) dEq := fun T H F x y dx dy b hx hy P p Q q =>
  ⟨dx, dy, Rp.dp _ (lay_of p.1) (Rp.sub b.sub _ hx), Rp.dp _ (lay_of p.2.1) (Rp.sub b.sub _ hy), p.1, p.2.1, q _ _ H F (.refl b) (.bl _) p.2.2⟩
theorem sr_ne : SimR K (rNeD K) dNe := fun T H F x y dx dy b hx hy P p Q q =>
  ⟨dx, dy, Rp.dp _ (lay_of p.1) (Rp.sub b.sub _ hx), Rp.dp _ (lay_of p.2.1) (Rp.sub b.sub _ hy), p.1, p.2.1, q _ _ H F (.refl b) (.bl _) p.2.2⟩
/-- is None, is not None -/
def isN : DD → Bool
  | .none => true
  | _ => false
theorem isN_of {F : Hp} {v : V} {d : DD} (h : Rp K F v d) : decide (v = .non) = isN d := by
  cases h <;> rfl
def dIs : DD → DD → (DD → Prop) → Prop := fun x y P => y = .none ∧ P (.bool (isN x))
def dIsn : DD → DD → (DD → Prop) → Prop := fun x y P => y = .none ∧ P (.bool (!isN x))
theorem sr_is : SimR K (fun x y H Q => y = .non ∧ Q (.bl (decide (x = .non))) H) dIs := fun T H F x y dx dy b hx hy P p Q q => by
  obtain ⟨rfl, p⟩ := p
  cases hy
  exact ⟨rfl, by rw [isN_of hx]; exact q _ _ H F (.refl b) (.bl _) p⟩
theorem sr_isn : SimR K (fun x y H Q => y = .non ∧ Q (.bl (!decide (x = .non))) H) dIsn := fun T H F x y dx dy b hx hy P p Q q => by
  obtain ⟨rfl, p⟩ := p
  cases hy
  exact ⟨rfl, by rw [isN_of hx]; exact q _ _ H F (.refl b) (.bl _) p⟩
/-- in, not in: flat items -/
def flatD : DD → Bool
  | .none => true | .bool _ => true | .int _ => true | .str _ => true
  | _ => false
def toV : DD → V
  | .none => .non | .bool b => .bl b | .int i => .int i | .str x => .str x
  | _ => .non
theorem flat_of {F : Hp} {v : V} {d : DD} (h : Rp K F v d) (f : flatD d = true) : v = toV d ∧ flatV v = true := by
  cases h <;> first | exact ⟨rfl, rfl⟩ | cases f
theorem flat_all {F : Hp} : ∀ {vs : List V} {ds : List DD}, RpAll K F vs ds → ds.all flatD = true → vs = ds.map toV ∧ vs.all flatV = true
  | _, [], h, _ => by cases h; exact ⟨rfl, rfl⟩
  | _, d :: ds, h, f => by
    cases h with
    | cons a b =>
      rw [List.all_cons, Bool.and_eq_true] at f
      obtain ⟨e1, f1⟩ := flat_of a f.1
      obtain ⟨e2, f2⟩ := flat_all b f.2
      refine ⟨by rw [List.map_cons, e1, e2], by rw [List.all_cons, f1, f2]; rfl⟩
def inD (x : DD) (ds : List DD) : Bool := inV (toV x) (ds.map toV)
def dIn (neg : Bool) : DD → DD → (DD → Prop) → Prop := fun x y P => ∃ ds, (y = .list ds ∨ y = .tuple ds) ∧ flatD x = true ∧ ds.all flatD = true ∧ P (.bool (if neg then !inD x ds else inD x ds))
theorem sr_in {neg : Bool} : SimR K (rIn K neg) (dIn neg) := fun T H F x y dx dy b hx hy P p Q q => by
  obtain ⟨ds, hd, f, fa, p⟩ := p
  obtain ⟨e1, f1⟩ := flat_of hx f
  rcases hd with rfl | rfl
  · cases hy with
    | lst h1 h2 =>
      obtain ⟨e2, f2⟩ := flat_all h2 fa
      subst e1 e2
      exact ⟨_, _, rfl, .inl (.inl (.inl (b.sub _ _ h1))), f1, f2, q _ _ H F (.refl b) (.bl _) p⟩
  · cases hy with
    | tup h1 h2 =>
      obtain ⟨e2, f2⟩ := flat_all h2 fa
      subst e1 e2
      exact ⟨_, _, rfl, .inr (b.sub.seqT h1), f1, f2, q _ _ H F (.refl b) (.bl _) p⟩
/-- list + list, list * int, tuple + tuple -/
def dCat : DD → DD → (List DD → Prop) → Prop := fun x y P => ∃ xs ys, x = .list xs ∧ y = .list ys ∧ xs.length + ys.length ≤ lineD ∧ P (xs ++ ys)
theorem fnone {T : Tws K} {H F : Hp} {p : Addr} (b : Bs T H F) (h : H p = none) : F p = none := by
  cases e : F p with
  | none => rfl
  | some o => have z := b.sub p o e; rw [h] at z; cases z
theorem sr_cat : SimRO K rCat dCat := fun T H F x y dx dy b hx hy P p Q q => by
  obtain ⟨xs, ys, rfl, rfl, l, p⟩ := p
  cases hx with
  | lst h1 h2 =>
    cases hy with
    | lst g1 g2 =>
      refine ⟨_, _, _, _, rfl, rfl, b.sub _ _ h1, b.sub _ _ g1, by rw [h2.len, g2.len]; exact line_le l, fun p' hp => ?_⟩
      exact q p' _ _ _ F (.al0 b hp) upd_same (fnone b hp) hp (h2.app g2) p
def dCatT : DD → DD → (DD → Prop) → Prop := fun x y P => ∃ xs ys, x = .tuple xs ∧ y = .tuple ys ∧ xs.length + ys.length ≤ lineD ∧ P (.tuple (xs ++ ys))
theorem nil_of {F : Hp} {vs : List V} {ds : List DD} (h : RpAll K F vs ds) : (vs = [] → ds = []) := fun e => by
  subst e; cases h; rfl
theorem sr_catT : SimR K (rCatA K) dCatT := fun T H F x y dx dy b hx hy P p Q q => by
  obtain ⟨xs, ys, rfl, rfl, l, p⟩ := p
  have hx0 := hx
  have hy0 := hy
  cases hx with
  | tup h1 h2 =>
    cases hy with
    | tup g1 g2 =>
      refine ⟨_, _, _, _, rfl, rfl, b.sub.seqT h1, b.sub.seqT g1, by rw [h2.len, g2.len]; exact line_le l, fun e => ?_, fun e e2 => ?_, fun e e2 p' hp => ?_⟩
      · have := nil_of h2 e
        subst this
        exact q _ _ H F (.refl b) hy0 p
      · have := nil_of g2 e2
        subst this
        rw [List.append_nil] at p
        exact q _ _ H F (.refl b) hx0 p
      · exact q (.ref p') _ _ _ (.al b hp) (.tup (.inl (.inl upd_same)) ((RpAll.sub (Stp.al (o := .tup _) b hp).ext _ h2).app (RpAll.sub (Stp.al (o := .tup _) b hp).ext _ g2))) p
end
section
variable {X : Cx} {e a b c : Expr} {es : List Expr} {pos : Pos} {α β γ : AEx} {τ υ : ATx} {δ : AOx}
theorem j_add (ha : JE X a α) (hb : JE X b β) : JE X (.BinOp a .Add b pos) (aB (dI fun i j => .int (i + j)) α β) := j_op op_add sr_int ha hb
theorem j_sub (ha : JE X a α) (hb : JE X b β) : JE X (.BinOp a .Sub b pos) (aB (dI fun i j => .int (i - j)) α β) := j_op op_sub sr_int ha hb
theorem j_mod (ha : JE X a α) (hb : JE X b β) : JE X (.BinOp a .Mod b pos) (aB (dIC (fun _ j => 0 < j) fun i j => .int (i % j)) α β) := j_op op_mod sr_intC ha hb
theorem j_fdiv (ha : JE X a α) (hb : JE X b β) : JE X (.BinOp a .FloorDiv b pos) (aB (dIC CDiv fun i j => .int (i / j)) α β) := j_op op_fdiv sr_intC ha hb
theorem j_pow (ha : JE X a α) (hb : JE X b β) : JE X (.BinOp a .Pow b pos) (aB (dIC CPow fun i j => .int (i ^ j.toNat)) α β) := j_op op_pow sr_intC ha hb
theorem j_band (ha : JE X a α) (hb : JE X b β) : JE X (.BinOp a .BitAnd b pos) (aB (dI fun i j => .int (Builtin.bitAnd i j)) α β) := j_op op_and sr_int ha hb
theorem j_shr (ha : JE X a α) (hb : JE X b β) : JE X (.BinOp a .RShift b pos) (aB (dIC (fun _ j => 0 ≤ j) fun i j => .int (i / 2 ^ j.toNat)) α β) := j_op op_shr sr_intC ha hb
theorem j_cat (ha : JE X a α) (hb : JE X b β) : JO X (.BinOp a .Add b pos) (aBO dCat α β) := j_opO op_cat sr_cat ha hb
theorem j_catT (ha : JE X a α) (hb : JE X b β) : JE X (.BinOp a .Add b pos) (aB dCatT α β) := j_op op_catA sr_catT ha hb
theorem j_ix (ha : JE X a α) (hb : JE X b β) (hs : PlainIx b := by intro _ _; rfl) : JE X (.Subscript a b pos) (aB dIx α β) := by
  obtain ⟨ta, a1, a2⟩ := ha.ex
  obtain ⟨tb, b1, b2⟩ := hb.ex
  exact ⟨_, pe_ix ix_seq a1 b1 hs, sim_op sr_ix a2 b2⟩
theorem j_gt (ha : JE X a α) (hb : JE X b β) : JE X (.Compare a [.Gt] [b] pos) (aB (dI fun i j => .bool (decide (j < i))) α β) := j_cmp op_gt sr_bl ha hb (nomark _)
theorem j_ge (ha : JE X a α) (hb : JE X b β) : JE X (.Compare a [.GtE] [b] pos) (aB (dI fun i j => .bool (decide (j ≤ i))) α β) := j_cmp op_ge sr_bl ha hb (nomark _)
theorem j_eq (hu : X.A.units + 64 < cLine) (ha : JE X a α) (hb : JE X b β) : JE X (.Compare a [.Eq] [b] pos) (aB dEq α β) := j_cmp (op_eqD hu) sr_eq ha hb (nomark _)
theorem jt_lt (ha : JE X a α) (hb : JE X b β) : JT X (.Compare a [.Lt] [b] pos) (aT (aB (dI fun i j => .bool (decide (i < j))) α β)) := jt_cmp op_lt sr_bl ha hb (nomark _)
theorem jt_gt (ha : JE X a α) (hb : JE X b β) : JT X (.Compare a [.Gt] [b] pos) (aT (aB (dI fun i j => .bool (decide (j < i))) α β)) := jt_cmp op_gt sr_bl ha hb (nomark _)
theorem jt_ge (ha : JE X a α) (hb : JE X b β) : JT X (.Compare a [.GtE] [b] pos) (aT (aB (dI fun i j => .bool (decide (j ≤ i))) α β)) := jt_cmp op_ge sr_bl ha hb (nomark _)
theorem jt_is (ha : JE X a α) (hb : JE X b β) : JT X (.Compare a [.Is] [b] pos) (aT (aB dIs α β)) := jt_cmp op_isN sr_is ha hb (nomark _)
theorem jt_isn (ha : JE X a α) (hb : JE X b β) : JT X (.Compare a [.IsNot] [b] pos) (aT (aB dIsn α β)) := jt_cmp op_notN sr_isn ha hb (nomark _)
theorem jt_eq (hu : X.A.units + 64 < cLine) (ha : JE X a α) (hb : JE X b β) : JT X (.Compare a [.Eq] [b] pos) (aT (aB dEq α β)) := jt_cmp (op_eqD hu) sr_eq ha hb (nomark _)
theorem jt_ne (hu : X.A.units + 64 < cLine) (ha : JE X a α) (hb : JE X b β) : JT X (.Compare a [.NotEq] [b] pos) (aT (aB dNe α β)) := jt_cmp (op_neD hu) sr_ne ha hb (nomark _)
theorem jt_in (ha : JE X a α) (hb : JE X b β) (hm : behindInMarks .In b = false := by rfl) : JT X (.Compare a [.In] [b] pos) (aT (aB (dIn false) α β)) := jt_cmp op_in_seq sr_in ha hb hm
/-- a op b op c -/
theorem sim_chain {K : KW} {r r' : R2} {ρ ρ' : DD → DD → (DD → Prop) → Prop} {ta tb tc : TE} (hr : SimR K r ρ) (hr' : SimR K r' ρ') (ha : SimE K ta α) (hb : SimE K tb β) (hc : SimE K tc γ) : SimE K (tChain r r' ta tb tc) (aChain ρ ρ' α β γ) := fun B F0 M T env σ H F R0 P p Q q =>
  ha B F0 M T env σ H F R0 _ p _ fun v d H1 F1 s1 d1 p1 => hb B F0 M T env σ H1 F1 (R0.step s1) _ p1 _ fun w e H2 F2 s2 d2 p2 =>
    hr T H2 F2 v w d e ((R0.step s1).step s2).bs (Rp.sub s2.ext _ d1) d2 _ p2 _ fun z f H3 F3 s3 d3 p3 => by
      obtain ⟨k, rfl, p4, p5⟩ := p3
      cases d3
      refine ⟨k, rfl, ?_⟩
      cases k with
      | true =>
        exact (if_pos rfl).mpr (hc B F0 M T env σ H3 F3 (((R0.step s1).step s2).step s3) _ (p4 rfl) _ fun x g H4 F4 s4 d4 p4 =>
          hr' T H4 F4 w x e g ((((R0.step s1).step s2).step s3).step s4).bs (Rp.sub (s3.ext.trans s4.ext) _ d2) d4 _ p4 Q fun y h H5 F5 s5 d5 p5 => q y h H5 F5 ((((s1.trans s2).trans s3).trans s4).trans s5) d5 p5)
      | false => exact (if_neg Bool.false_ne_true).mpr (q _ _ H3 F3 ((s1.trans s2).trans s3) (.bl false) (p5 rfl))
theorem j_chain {op op' : CmpOp} {r r' : R2} {ρ ρ' : DD → DD → (DD → Prop) → Prop} (ho : OpR X (compareOp op) r) (hr : SimR (kw X) r ρ) (ho' : OpR X (compareOp op') r') (hr' : SimR (kw X) r' ρ') (ha : JE X a α) (hb : JE X b β) (hc : JE X c γ)
    (hm : lastMarks [op, op'] [b, c] = false := by with_unfolding_all rfl) : JE X (.Compare a [op, op'] [b, c] pos) (aChain ρ ρ' α β γ) := by
  obtain ⟨ta, a1, a2⟩ := ha.ex
  obtain ⟨tb, b1, b2⟩ := hb.ex
  obtain ⟨tc, c1, c2⟩ := hc.ex
  exact ⟨_, pe_chain ho ho' a1 b1 c1 hm, sim_chain hr hr' a2 b2 c2⟩
end
end Ab
namespace Ab
open PySem PySem.Spec PyProof.Rows L2
/-- what a def promises of data: W tells for the arguments which results are to be expected -/
abbrev Wt := AE → (DD → Prop) → Prop
def spA (K : KW) (n : Nat) (W : Wt) : Sp := fun vs H Q _ => ∃ (F : Hp) (T : Tws K) (as : AE) (P : DD → Prop), Bs T H F ∧ Paired (Arg K T F) vs as ∧ as.length = n ∧ W as P ∧ ∀ v d H' F', Stp T H F H' F' → Rp K F' v d → P d → Q v H'
theorem pairedLen {α β : Type} {R : α → β → Prop} : ∀ {xs : List α} {ys : List β}, Paired R xs ys → xs.length = ys.length
  | _, _, .nil => rfl
  | _, _, .cons _ t => by rw [List.length_cons, List.length_cons, pairedLen t]
theorem spA_len {K : KW} {n : Nat} {W : Wt} : ∀ vs H Q E, spA K n W vs H Q E → vs.length = n := fun vs H Q E h => by
  obtain ⟨F, T, as, P, _, h2, h3, _⟩ := h
  rw [← h3]
  exact pairedLen h2
/-- a def of the text that keeps the promise W, by its name -/
structure Cl (P : Program) (w : World) (K : PySem.W.Frag) (mg : Str → Option Value) (base : Heap) (k : Nat) (x : Str) (n : Nat) (W : Wt) : Prop where
  ex : ∃ (f : Addr) (fd : FuncData) (ps : List Str), FnOk P w K mg base CX0 k f fd ps (spA ⟨K, P, w⟩ n W) ∧ mg x = some (.ref f) ∧ PySem.W.keepIn K (.ref f) = true ∧ Binds K fd ps []
theorem Cl.mono {P : Program} {w : World} {K : PySem.W.Frag} {mg : Str → Option Value} {base : Heap} {k j : Nat} {x : Str} {n : Nat} {W : Wt} (h : Cl P w K mg base k x n W) (l : k ≤ j) : Cl P w K mg base j x n W := by
  obtain ⟨f, fd, ps, h1, h2⟩ := h.ex
  exact ⟨f, fd, ps, h1.mono l, h2⟩
theorem Cl.imp {P : Program} {w : World} {K : PySem.W.Frag} {mg : Str → Option Value} {base : Heap} {k : Nat} {x : Str} {n : Nat} {W W' : Wt} (h : Cl P w K mg base k x n W) (l : ∀ as P, W' as P → W as P) : Cl P w K mg base k x n W' := by
  obtain ⟨f, fd, ps, h1, h2⟩ := h.ex
  exact ⟨f, fd, ps, h1.imp fun vs H Q E ⟨F, T, as, P, a, b, c, d, e⟩ => ⟨F, T, as, P, a, b, c, l _ _ d, e⟩, h2⟩
def aCall (n : Nat) (W : Wt) (δ : AE → (AE → Prop) → Prop) : AEx := fun env P => δ env fun as => as.length = n ∧ W as P
section
variable {X : Cx} {e a b c : Expr} {es : List Expr} {pos p : Pos} {α β γ : AEx} {τ υ : ATx} {x : Str} {k n : Nat} {W : Wt}
theorem sim_call {K : KW} {δ : AE → (AE → Prop) → Prop} {ta : TA} (h : SimA K ta δ) : SimE K (tCall (spA K n W) [] E0 ta) (aCall n W δ) := fun B F0 M T env σ H F R0 P p Q q =>
  h B F0 M T env σ H F R0 _ p _ fun vs as H1 F1 s1 d1 p1 => by
    rw [List.append_nil]
    exact ⟨F1, T, as, P, (R0.step s1).bs, d1, p1.1, p1.2, fun v d H2 F2 s2 d2 p2 => q v d H2 F2 (s1.trans s2) d2 p2⟩
theorem j_call {δ : AE → (AE → Prop) → Prop} (C : Cl X.prog X.w X.K X.mg X.base k x n W) (hr : Room k X.A) (ha : JA X (e :: es) δ) (hg : Gl X x := by rfl) (hdb : (x == ("__debug__" : Str)) = false := by decide)
    (he : starEach (e :: es) X.env = (false, eval e X.env) :: starEach es X.env := by rfl) (hpl : (backTo pos (starEach es X.env)).any (·.1) = false := by rfl) : JE X (.Call (.Name x p) (e :: es) [] pos) (aCall n W δ) := by
  obtain ⟨t, h1, h2⟩ := ha.ex
  obtain ⟨f, fd, ps, g1, g2, g3, g4⟩ := C.ex
  exact ⟨_, pe_call g1 hr hg g2 g3 g4 .nil pass0 h1 hdb he hpl, sim_call h2⟩
theorem j_call0 (C : Cl X.prog X.w X.K X.mg X.base k x n W) (hr : Room k X.A) (hg : Gl X x := by rfl) (hdb : (x == ("__debug__" : Str)) = false := by decide) : JE X (.Call (.Name x p) [] [] pos) (aCall n W gNilA) := by
  obtain ⟨f, fd, ps, g1, g2, g3, g4⟩ := C.ex
  exact ⟨_, pe_call0 g1 hr hg g2 g3 g4 .nil pass0 hdb, sim_call fun B F0 M T env σ H F R0 P p Q q => q [] [] H F (.refl R0.bs) .nil p⟩
def aCB (ρ : List DD → (DD → Prop) → Prop) (δ : AOx) : AEx := fun env P => δ env fun ds => ρ ds P
def aCBO (ρ : List DD → (List DD → Prop) → Prop) (δ : AOx) : AOx := fun env P => δ env fun ds => ρ ds P
theorem sim_cb {K : KW} {r : List V → Hp → VK → Prop} {ρ : List DD → (DD → Prop) → Prop} {δ : AOx} {ta : TA} (hr : SimC K r ρ) (h : SimD K ta δ) : SimE K (tCB r ta) (aCB ρ δ) := fun B F0 M T env σ H F R0 P p Q q =>
  h B F0 M T env σ H F R0 _ p _ fun vs ds H1 F1 s1 d1 p1 => hr T H1 F1 vs ds (R0.step s1).bs d1 _ p1 Q fun v d H2 F2 s2 d2 p2 => q v d H2 F2 (s1.trans s2) d2 p2
theorem sim_cbO {K : KW} {r : List V → Hp → VK → Prop} {ρ : List DD → (List DD → Prop) → Prop} {δ : AOx} {ta : TA} (hr : SimCO K r ρ) (h : SimD K ta δ) : SimO K (tCB r ta) (aCBO ρ δ) := fun B F0 M T env σ H F R0 P p Q q =>
  h B F0 M T env σ H F R0 _ p _ fun vs ds H1 F1 s1 d1 p1 => hr T H1 F1 vs ds (R0.step s1).bs d1 _ p1 Q fun a vs d H2 F2 s2 h1 h2 h3 d2 p2 => q a vs d H2 F2 (s1.trans s2) h1 h2 (s1.dom h3) d2 p2
theorem j_bi {id : String} {r : List V → Hp → VK → Prop} {ρ : List DD → (DD → Prop) → Prop} {δ : AOx} (hc : CallR X (.builtin id) r) (hr : SimC (kw X) r ρ) (hm : X.mg x = none) (hv : bootBuiltins x = some (.builtin id)) (ha : JD X (e :: es) δ) (hg : Gl X x := by rfl) (hn : x ≠ "__name__" := by decide) (hdb : (x == ("__debug__" : Str)) = false := by decide)
    (he : starEach (e :: es) X.env = (false, eval e X.env) :: starEach es X.env := by rfl) (hpl : (backTo pos (starEach es X.env)).any (·.1) = false := by rfl) : JE X (.Call (.Name x p) (e :: es) [] pos) (aCB ρ δ) := by
  obtain ⟨t, h1, h2⟩ := ha.ex
  exact ⟨_, pe_callB hc hg hm hv h1 hn hdb he hpl, sim_cb hr h2⟩
theorem j_tyO {id : String} {r : List V → Hp → VK → Prop} {ρ : List DD → (List DD → Prop) → Prop} {δ : AOx} (hc : CallR X (.type id) r) (hr : SimCO (kw X) r ρ) (hm : X.mg x = none) (hv : bootBuiltins x = some (.type id)) (ha : JD X (e :: es) δ) (hg : Gl X x := by rfl) (hn : x ≠ "__name__" := by decide) (hdb : (x == ("__debug__" : Str)) = false := by decide)
    (he : starEach (e :: es) X.env = (false, eval e X.env) :: starEach es X.env := by rfl) (hpl : (backTo pos (starEach es X.env)).any (·.1) = false := by rfl) : JO X (.Call (.Name x p) (e :: es) [] pos) (aCBO ρ δ) := by
  obtain ⟨t, h1, h2⟩ := ha.ex
  exact ⟨_, pe_callTy hc hg hm hv h1 hn hdb he hpl, sim_cbO hr h2⟩
end
section
variable {K : KW} {X : Cx}
theorem one_of {F : Hp} {vs : List V} {d : DD} (h : RpAll K F vs [d]) : ∃ v, vs = [v] ∧ Rp K F v d := by
  cases h with
  | cons a b => cases b; exact ⟨_, rfl, a⟩
theorem two_of {F : Hp} {vs : List V} {d e : DD} (h : RpAll K F vs [d, e]) : ∃ v w, vs = [v, w] ∧ Rp K F v d ∧ Rp K F w e := by
  cases h with
  | cons a b =>
    obtain ⟨w, rfl, c⟩ := one_of b
    exact ⟨_, w, rfl, a, c⟩
def dLen : List DD → (DD → Prop) → Prop := fun ds P => ∃ xs, (ds = [.list xs] ∨ ds = [.tuple xs]) ∧ P (.int xs.length)
theorem sc_len : SimC K (fun xs H Q => ∃ p ys, xs = [.ref p] ∧ (SqL K H p ys ∨ SqT K H p ys) ∧ Q (.int ys.length) H) dLen := fun T H F vs ds b hd P p Q q => by
  obtain ⟨xs, h, p⟩ := p
  rcases h with rfl | rfl
  · obtain ⟨v, rfl, h⟩ := one_of hd
    cases h with
    | lst h1 h2 => exact ⟨_, _, rfl, .inl (.inl (.inl (b.sub _ _ h1))), by rw [h2.len]; exact q _ _ H F (.refl b) (.int _) p⟩
  · obtain ⟨v, rfl, h⟩ := one_of hd
    cases h with
    | tup h1 h2 => exact ⟨_, _, rfl, .inr (b.sub.seqT h1), by rw [h2.len]; exact q _ _ H F (.refl b) (.int _) p⟩
def dMin2 : List DD → (DD → Prop) → Prop := fun ds P => ∃ i j, ds = [.int i, .int j] ∧ P (.int (if j < i then j else i))
def dMax2 : List DD → (DD → Prop) → Prop := fun ds P => ∃ i j, ds = [.int i, .int j] ∧ P (.int (if j > i then j else i))
theorem sc_min2 : SimC K (fun xs H Q => ∃ i j, xs = [.int i, .int j] ∧ Q (.int (if j < i then j else i)) H) dMin2 := fun T H F vs ds b hd P p Q q => by
  obtain ⟨i, j, rfl, p⟩ := p
  obtain ⟨v, w, rfl, h1, h2⟩ := two_of hd
  cases h1; cases h2
  exact ⟨i, j, rfl, q _ _ H F (.refl b) (.int _) p⟩
theorem sc_max2 : SimC K (fun xs H Q => ∃ i j, xs = [.int i, .int j] ∧ Q (.int (if j > i then j else i)) H) dMax2 := fun T H F vs ds b hd P p Q q => by
  obtain ⟨i, j, rfl, p⟩ := p
  obtain ⟨v, w, rfl, h1, h2⟩ := two_of hd
  cases h1; cases h2
  exact ⟨i, j, rfl, q _ _ H F (.refl b) (.int _) p⟩
theorem ints_of {F : Hp} : ∀ {vs : List V} (ns : List Int), RpAll K F vs (ns.map PyData.int) → vs = ns.map V.int
  | _, [], h => by cases h; rfl
  | _, n :: ns, h => by
    cases h with
    | cons a b => cases a; rw [ints_of ns b]; rfl
theorem bools_of {F : Hp} : ∀ {vs : List V} (ns : List Bool), RpAll K F vs (ns.map PyData.bool) → vs = ns.map V.bl
  | _, [], h => by cases h; rfl
  | _, n :: ns, h => by
    cases h with
    | cons a b => cases a; rw [bools_of ns b]; rfl
theorem of_ints {F : Hp} : ∀ (ns : List Int), RpAll K F (ns.map V.int) (ns.map PyData.int)
  | [] => .nil
  | n :: ns => .cons (.int n) (of_ints ns)
/-- sum of a tuple of ints -/
def rSumT (K : KW) : List V → Hp → VK → Prop := fun vs H Q => ∃ (a : Addr) (ns : List Int), vs = [V.ref a] ∧ SqT K H a (ns.map V.int) ∧ Q (.int ns.sum) H
theorem cr_sumT (hc : X.calm = true) : CallR X (.builtin "sum") (rSumT (kw X)) := by
  intro pins s σ H xs us Q I r h
  obtain ⟨a, ns, rfl, hs, q⟩ := h
  obtain ⟨u, rfl, ru⟩ := vals1 r
  cases ru
  obtain ⟨its, rv, p, hz⟩ := I.tuple hs
  have hi : IntsAre its ns := Vals.ints rv
  obtain ⟨xs, hx⟩ := hi.allInts.items
  have hn : numsOf its.toArray.toList = ns := by rw [show its.toArray.toList = its from rfl, hi.numsOf]
  rw [hx] at p hn
  rw [nums_intItems] at hn
  refine PySem.W.ktm_sumG (I.ok.hd hc) p fun h' tk t' hk => ?_
  rw [preSum_eq, List.take_of_length_le (by simp), hn]
  exact ⟨.int ns.sum, H, I.kept (t' := tk) hk, ⟨_, rfl⟩, q⟩
def dSumT : List DD → (DD → Prop) → Prop := fun ds P => ∃ ns : List Int, ds = [.tuple (ns.map PyData.int)] ∧ P (.int ns.sum)
theorem sc_sumT : SimC K (rSumT K) dSumT := fun T H F vs ds b hd P p Q q => by
  obtain ⟨ns, rfl, p⟩ := p
  obtain ⟨v, rfl, h⟩ := one_of hd
  cases h with
  | tup h1 h2 =>
    have := ints_of _ h2
    subst this
    exact ⟨_, ns, rfl, b.sub.seqT h1, q _ _ H F (.refl b) (.int _) p⟩
def dAll : List DD → (DD → Prop) → Prop := fun ds P => ∃ ns : List Bool, ds = [.list (ns.map PyData.bool)] ∧ P (.bool (ns.all id))
theorem sc_all : SimC K (rAll K) dAll := fun T H F vs ds b hd P p Q q => by
  obtain ⟨ns, rfl, p⟩ := p
  obtain ⟨v, rfl, h⟩ := one_of hd
  cases h with
  | lst h1 h2 =>
    have := bools_of _ h2
    subst this
    exact ⟨_, ns, rfl, .inl (.inl (b.sub _ _ h1)), q _ _ H F (.refl b) (.bl _) p⟩
def dListO : List DD → (List DD → Prop) → Prop := fun ds P => ∃ xs, (ds = [.list xs] ∨ ds = [.tuple xs]) ∧ P xs
theorem sc_list : SimCO K (fun xs H Q => ∃ p ys, xs = [.ref p] ∧ (SqL K H p ys ∨ SqT K H p ys) ∧ ∀ l, H l = none → Q (.ref l) (upd H l (.lst ys))) dListO := fun T H F vs ds b hd P p Q q => by
  obtain ⟨xs, h, p⟩ := p
  rcases h with rfl | rfl
  · obtain ⟨v, rfl, h⟩ := one_of hd
    cases h with
    | lst h1 h2 => exact ⟨_, _, rfl, .inl (.inl (.inl (b.sub _ _ h1))), fun l hl => q l _ _ _ F (.al0 b hl) upd_same (fnone b hl) hl h2 p⟩
  · obtain ⟨v, rfl, h⟩ := one_of hd
    cases h with
    | tup h1 h2 => exact ⟨_, _, rfl, .inr (b.sub.seqT h1), fun l hl => q l _ _ _ F (.al0 b hl) upd_same (fnone b hl) hl h2 p⟩
def dTupleO : List DD → (DD → Prop) → Prop := fun ds P => ∃ xs, (ds = [.list xs] ∨ ds = [.tuple xs]) ∧ P (.tuple xs)
end
section
variable {K : KW} {X : Cx} {e a b c : Expr} {pos p2 : Pos} {α β γ : AEx}
abbrev APx := AE → (Option Int → Prop) → Prop
def SimP (K : KW) (t : TO) (π : APx) : Prop := ∀ B F0 M T env σ H F, R K B F0 M T env σ H F → ∀ P, π env P → ∀ Q : Option Int → Hp → Prop, (∀ o H' F', Stp T H F H' F' → P o → Q o H') → t σ H Q
structure JP (X : Cx) (e : Option Expr) (π : APx) : Prop where ex : ∃ t, PO X e t ∧ SimP (kw X) t π
def aNoP : APx := fun _ P => P none
def aPt (α : AEx) : APx := fun env P => α env fun x => ∃ i, x = .int i ∧ P (some i)
theorem jp_none : JP X none aNoP := ⟨_, po_none, fun B F0 M T env σ H F R0 P p Q q => q none H F (.refl R0.bs) p⟩
theorem jp_some (h : JE X e α) : JP X (some e) (aPt α) := by
  obtain ⟨t, h1, h2⟩ := h.ex
  refine ⟨_, po_some h1, fun B F0 M T env σ H F R0 P p Q q => h2 B F0 M T env σ H F R0 _ p _ fun v d H1 F1 s1 d1 p1 => ?_⟩
  obtain ⟨i, rfl, p1⟩ := p1
  cases d1
  exact ⟨i, rfl, q _ H1 F1 s1 p1⟩
def cutD (xs : List DD) (lo hi : Option Int) : List DD := (xs.drop (HT.sIx xs.length 0 lo)).take (HT.sIx xs.length xs.length hi - HT.sIx xs.length 0 lo)
theorem cut_all {F : Hp} {vs : List V} {ds : List DD} (h : RpAll K F vs ds) (lo hi : Option Int) : RpAll K F (cutV vs lo hi) (cutD ds lo hi) := by
  unfold cutV cutD
  rw [h.len]
  exact (h.drop _).take _
def aSlL (α : AEx) (l h : APx) : AOx := fun env P => α env fun x => l env fun lo => h env fun hi => ∃ xs, x = .list xs ∧ P (cutD xs lo hi)
def aSlT (α : AEx) (l h : APx) : AEx := fun env P => α env fun x => l env fun lo => h env fun hi => ∃ xs, x = .tuple xs ∧ P (.tuple (cutD xs lo hi))
variable {lo hi : Option Expr} {l h : APx}
theorem cutV_whole {xs : List V} {lo hi : Option Int} (h : HT.sIx xs.length 0 lo = 0 ∧ HT.sIx xs.length xs.length hi = xs.length) : cutV xs lo hi = xs := by
  unfold cutV
  rw [h.1, h.2, List.drop_zero, Nat.sub_zero, List.take_length]
theorem j_slT (he : JE X e α) (hl : JP X lo l) (hh : JP X hi h) : JE X (.Subscript e (.Slice lo hi none p2) pos) (aSlT α l h) := by
  obtain ⟨t, h1, h2⟩ := he.ex
  obtain ⟨tl, l1, l2⟩ := hl.ex
  obtain ⟨th, u1, u2⟩ := hh.ex
  refine ⟨_, pe_slice sl_tupA h1 l1 u1, fun B F0 M T env σ H F R0 P p Q q => h2 B F0 M T env σ H F R0 _ p _ fun v d H1 F1 s1 d1 p1 => l2 B F0 M T env σ H1 F1 (R0.step s1) _ p1 _ fun o H2 F2 s2 p2 => u2 B F0 M T env σ H2 F2 ((R0.step s1).step s2) _ p2 _ fun o' H3 F3 s3 p3 => ?_⟩
  obtain ⟨xs, rfl, p3⟩ := p3
  cases d1 with
  | @tup a vs _ g1 g2 =>
    have b := (((R0.step s1).step s2).step s3).bs
    have g2' := cut_all (RpAll.sub (s2.ext.trans s3.ext) _ g2) o o'
    refine ⟨a, vs, rfl, b.sub.seqT ((s2.ext.trans s3.ext).seqT g1), fun hw => ?_, fun hw p hp => ?_⟩
    · rw [cutV_whole hw] at g2'
      exact q _ _ H3 F3 ((s1.trans s2).trans s3) (.tup ((s2.ext.trans s3.ext).seqT g1) g2') p3
    · exact q _ _ _ _ (((s1.trans s2).trans s3).trans (.al b hp)) (.tup (.inl (.inl upd_same)) (RpAll.sub (Stp.al (o := .tup _) b hp).ext _ g2')) p3
end
end Ab
namespace Ab
open PySem PySem.Spec PyProof.Rows L2
section
variable {X : Cx} {e a b c : Expr} {es : List Expr} {st : Stmt} {sts : List Stmt} {pos p : Pos} {α β γ : AEx} {τ υ : ATx} {x : Str} {k n : Nat} {s u : ASx}
theorem Lk.seq {K : KW} {B F0 : Hp} {M : Tws K} {A : AEnds} {D : Ends} (l : Lk K B F0 M A D) {f : AE → Prop} {g : L2.St → Hp → Prop} (h : ∀ T env σ H F, R K B F0 M T env σ H F → f env → g σ H) : Lk K B F0 M { A with nx := f } { D with nx := g } := ⟨h, l.rt, l.bk, l.ct, l.rtO, l.rtE⟩
def aSkip : ASx := fun A env => A.nx env
def aSeq (s u : ASx) : ASx := fun A env => s { A with nx := u A } env
theorem jss_nil : JSs X [] aSkip := ⟨_, pss_nil, fun B F0 M T env σ H F R0 A D l h => l.nx T env σ H F R0 h⟩
theorem jss_cons (h : JS X st s) (g : JSs X sts u) : JSs X (st :: sts) (aSeq s u) := by
  obtain ⟨t, h1, h2⟩ := h.ex
  obtain ⟨t', g1, g2⟩ := g.ex
  exact ⟨_, pss_cons h1 g1, fun B F0 M T env σ H F R0 A D l h => h2 B F0 M T env σ H F R0 _ _ (l.seq fun T env σ H F r q => g2 B F0 M T env σ H F r A D l q) h⟩
theorem jss_one (h : JS X st s) : JSs X [st] s := by
  obtain ⟨t, h1, h2⟩ := h.ex
  exact ⟨_, pss_one h1, h2⟩
def aNever : ASx := fun _ _ => False
theorem jss_never : JSs X sts aNever := ⟨_, pss_never, fun B F0 M T env σ H F R0 A D l h => h.elim⟩
def aSet (i : Nat) (α : AEx) : ASx := fun A env => α env fun d => A.nx (env.set i (.va d))
theorem sim_set {K : KW} {t : TE} {i : Nat} (h : SimE K t α) : SimS K (tAsg t (gName i)) (aSet i α) := fun B F0 M T env σ H F R0 A D l p =>
  h B F0 M T env σ H F R0 _ p _ fun v d H1 F1 s1 d1 p1 => l.nx T _ _ H1 F1 ((R0.step s1).put d1 _ rfl) p1
theorem js_set (i : Nat) (nd : X.N.Nodup) (he : JE X e α) (hi : X.N[i]? = some x := by rfl) (hx : Loc X.env.scope x := by first | exact Or.inl rfl | exact Or.inr rfl) (hs : swapsWith e (some (.Name x p)) pos.line X.env = pure false := by rfl)
    (hf : X.fn x = true ∨ X.env.scope.names.lookup x = some .local := by first | exact .inl rfl | exact .inr rfl | assumption) : JS X (.Assign [.Name x p] e pos) (aSet i α) := by
  obtain ⟨t, h1, h2⟩ := he.ex
  exact ⟨_, ps_set nd hi hx h1 hs hf, sim_set h2⟩
/-- name = a new list that may change later -/
def aSetO (i : Nat) (α : AOx) : ASx := fun A env => α env fun ds => A.nx (env.set i (.ow ds))
theorem sim_setO {K : KW} {t : TE} {i : Nat} {α : AOx} (h : SimO K t α) : SimS K (tAsg t (gName i)) (aSetO i α) := fun B F0 M T env σ H F R0 A D l p =>
  h B F0 M T env σ H F R0 _ p _ fun a vs ds H1 F1 s1 h1 h2 h3 d1 p1 => l.nx T _ _ H1 F1 ((R0.step s1).putO h1 h2 (R0.toGd.dom h3) (fun t => by
    obtain ⟨_, z⟩ := Tws.has (R0.toGd.tw a t).2.1
    rw [h3] at z; cases z) d1 (fun j es _ hj hσ => by
      obtain ⟨b, vs', e1, e2, _⟩ := R0.og j es hj
      rw [hσ] at e1
      cases Option.some.inj e1
      rw [h3] at e2; cases e2) (R0.lnf h3)) p1
theorem js_setO (i : Nat) (nd : X.N.Nodup) {α : AOx} (he : JO X e α) (hi : X.N[i]? = some x := by rfl) (hx : Loc X.env.scope x := by first | exact Or.inl rfl | exact Or.inr rfl) (hs : swapsWith e (some (.Name x p)) pos.line X.env = pure false := by rfl)
    (hf : X.fn x = true ∨ X.env.scope.names.lookup x = some .local := by first | exact .inl rfl | exact .inr rfl | assumption) : JS X (.Assign [.Name x p] e pos) (aSetO i α) := by
  obtain ⟨t, h1, h2⟩ := he.ex
  exact ⟨_, ps_set nd hi hx h1 hs hf, sim_setO h2⟩
/-- a list of one's own is settled; a list [p, q] becomes a town -/
def aFrz (i : Nat) (s : ASx) : ASx := fun A env => ∃ ds, env[i]? = some (.ow ds) ∧ s A (env.set i (.va (.list ds)))
def aTwn (i : Nat) (s : ASx) : ASx := fun A env => ∃ (p : Nat) (q : Int), env[i]? = some (.ow [.int (p : Int), .int q]) ∧ s A (env.set i .tw)
theorem set_same {α : Type} : ∀ {l : List α} {i : Nat} {v : α}, l[i]? = some v → l.set i v = l
  | [], _, _, h => by simp at h
  | a :: l, 0, v, h => by cases Option.some.inj h; rfl
  | a :: l, i + 1, v, h => by
    show a :: l.set i v = a :: l
    rw [set_same (l := l) (i := i) (by simpa using h)]
theorem R.frzG {K : KW} {B F0 : Hp} {M T : Tws K} {env : AE} {σ : L2.St} {H F : Hp} {i : Nat} {ds : Og} (R0 : R K B F0 M T env σ H F) (h : env[i]? = some (.og ds)) (ok : ds.ok) : ∃ F', R K B F0 M T (env.set i (.va ds.d)) σ H F' := by
  obtain ⟨a, vs, e1, e2, e3, e4, e5, e6⟩ := R0.og i ds h
  have sb : Sub F (upd F a vs) := sub_upd e3
  have il : i < env.length := (List.getElem?_eq_some_iff.mp h).1
  have at_ : ∀ {j : Nat} {s : Sl}, (env.set i (.va ds.d))[j]? = some s → (i = j ∧ s = .va ds.d) ∨ (i ≠ j ∧ env[j]? = some s) := fun {j s} he => by
    by_cases q : i = j
    · subst q
      rw [List.getElem?_set_self il] at he
      cases he
      exact .inl ⟨rfl, rfl⟩
    · rw [List.getElem?_set_ne q] at he
      exact .inr ⟨q, he⟩
  refine ⟨upd F a vs, ⟨fun b u e => ?_, R0.f0.trans sb, fun b u e => ?_, R0.keep, fun b t => ?_, R0.mt⟩, by rw [List.length_set]; exact R0.len, fun j d he => ?_, fun j es he => ?_, fun j kk he => ?_, fun j ns he => ?_, fun j k es fs b g1 g2 g3 g4 => ?_, fun j φ he => ?_⟩
  case refine_9 =>
    obtain ⟨⟨v, h1, h2⟩, h3, hj⟩ := R0.lnE (s' := .va ds.d) (fun φ z => by cases z) (.inl fun g z => by cases z) j φ he
    refine ⟨⟨v, h1, φ.mono h2 (fun _ _ => rfl) sb⟩, fun x hx => ?_⟩
    obtain ⟨k1, k2, k3, k4, k5⟩ := h3 x hx
    have ne : x ≠ a := fun z => R0.lno h e1 j φ hj (by rw [← z]; exact hx)
    exact ⟨k1, by rw [upd_ne ne]; exact k2, k3, k4, k5⟩
  · by_cases q : b = a
    · subst q; rw [upd_same] at e; cases e; exact e2
    · rw [upd_ne q] at e; exact R0.sub b u e
  · by_cases q : b = a
    · subst q; exact .inr e4
    · rw [upd_ne q] at e; exact R0.new b u e
  · have hb : b ≠ a := fun q => e5 (q ▸ t)
    rw [upd_ne hb]; exact R0.tw b t
  · rcases at_ he with ⟨q, q2⟩ | ⟨q, he⟩
    · subst q; cases q2
      exact ⟨_, e1, e6.rp sb upd_same ok⟩
    · obtain ⟨v, h1, h2⟩ := R0.va j d he
      exact ⟨v, h1, Rp.sub sb _ h2⟩
  · rcases at_ he with ⟨_, q2⟩ | ⟨q, he⟩
    · cases q2
    · obtain ⟨c, ws, f1, f2, f3, f4, f5, f6⟩ := R0.og j es he
      have ne : c ≠ a := fun z => by
        subst z
        exact q (R0.di i j ds es c h he e1 f1)
      exact ⟨c, ws, f1, f2, by rw [upd_ne ne]; exact f3, f4, f5, f6.sub sb⟩
  · rcases at_ he with ⟨_, q2⟩ | ⟨q, he⟩
    · cases q2
    · exact R0.ti j kk he
  · rcases at_ he with ⟨_, q2⟩ | ⟨q, he⟩
    · cases q2
    · obtain ⟨c, f1, f2⟩ := R0.sc j ns he
      exact ⟨c, f1, sb.seqL f2⟩
  · rcases at_ g1 with ⟨_, q2⟩ | ⟨q, g1⟩
    · cases q2
    · rcases at_ g2 with ⟨_, q2⟩ | ⟨q', g2⟩
      · cases q2
      · exact R0.di j k es fs b g1 g2 g3 g4
theorem R.frz {K : KW} {B F0 : Hp} {M T : Tws K} {env : AE} {σ : L2.St} {H F : Hp} {i : Nat} {ds : List DD} (R0 : R K B F0 M T env σ H F) (h : env[i]? = some (.ow ds)) : ∃ F', R K B F0 M T (env.set i (.va (.list ds))) σ H F' := R0.frzG h True.intro
theorem jss_frz (i : Nat) (h : JSs X sts s) : JSs X sts (aFrz i s) := by
  obtain ⟨t, h1, h2⟩ := h.ex
  refine ⟨_, h1, fun B F0 M T env σ H F R0 A D l p => ?_⟩
  obtain ⟨ds, p1, p2⟩ := p
  obtain ⟨F', r⟩ := R0.frz p1
  exact h2 B F0 M T _ σ H F' r A D l p2
theorem R.twn {K : KW} {B F0 : Hp} {M T : Tws K} {env : AE} {σ : L2.St} {H F : Hp} {i : Nat} {p : Nat} {q : Int} (R0 : R K B F0 M T env σ H F) (h : env[i]? = some (.ow [.int (p : Int), .int q])) : ∃ T' : Tws K, R K B F0 M T' (env.set i .tw) σ H F := by
  obtain ⟨a, vs, e1, e2, e3, e4, e5, e6⟩ := R0.ow i _ h
  have ev : vs = [V.int (p : Int), V.int q] := ints_of [(p : Int), q] e6
  subst ev
  have il : i < env.length := (List.getElem?_eq_some_iff.mp h).1
  have at_ : ∀ {j : Nat} {s : Sl}, (env.set i .tw)[j]? = some s → (i = j ∧ s = .tw) ∨ (i ≠ j ∧ env[j]? = some s) := fun {j s} he => by
    by_cases q : i = j
    · subst q
      rw [List.getElem?_set_self il] at he
      cases he
      exact .inl ⟨rfl, rfl⟩
    · rw [List.getElem?_set_ne q] at he
      exact .inr ⟨q, he⟩
  have k0 : ∀ {b : Addr}, T b → (if b = a then none else T.kd b) = T.kd b := fun {b} t => if_neg fun (q : b = a) => e5 (q ▸ t)
  refine ⟨⟨fun b => b = a ∨ T b, fun b => if b = a then none else T.kd b⟩, ⟨R0.sub, R0.f0, R0.new, R0.keep, fun b t => ?_, fun b m => ⟨.inr (R0.mt b m).1, (show KdLe (if b = a then none else T.kd b) (M.kd b) by rw [k0 (R0.mt b m).1]; exact (R0.mt b m).2)⟩⟩, by rw [List.length_set]; exact R0.len, fun j d he => ?_, fun j es he => ?_, fun j kk he => ?_, fun j ns he => ?_, fun j k es fs b g1 g2 g3 g4 => ?_, fun j φ he => ?_⟩
  case refine_7 =>
    obtain ⟨h2, h3, hj⟩ := R0.lnE (s' := .tw) (fun φ z => by cases z) (.inl fun g z => by cases z) j φ he
    refine ⟨h2, fun x hx => ?_⟩
    obtain ⟨k1, k2, k3, k4, k5⟩ := h3 x hx
    refine ⟨k1, k2, k3, fun z => ?_, k5⟩
    rcases z with z | z
    · have z : x = a := z
      exact R0.lno h e1 j φ hj (by rw [← z]; exact hx)
    · exact k4 z
  · rcases t with t | t
    · subst t; exact ⟨e3, Tws.of_town ⟨p, q, e2⟩ (if_pos rfl), .inr e4⟩
    · exact ⟨(R0.tw b t).1, Tws.kd_ok (R0.tw b t).2.1 (k0 t), (R0.tw b t).2.2⟩
  · rcases at_ he with ⟨_, q2⟩ | ⟨q, he⟩
    · cases q2
    · exact R0.va j d he
  · rcases at_ he with ⟨_, q2⟩ | ⟨q, he⟩
    · cases q2
    · obtain ⟨c, ws, f1, f2, f3, f4, f5, f6⟩ := R0.og j es he
      refine ⟨c, ws, f1, f2, f3, f4, fun z => ?_, f6⟩
      rcases z with z | z
      · subst z
        exact q (R0.di i j _ es c h he e1 f1)
      · exact f5 z
  · rcases at_ he with ⟨q, q2⟩ | ⟨q, he⟩
    · subst q; cases q2; exact ⟨a, .inl rfl, if_pos rfl, e1⟩
    · obtain ⟨c, t, f0, f⟩ := R0.ti j kk he
      exact ⟨c, .inr t, (k0 t).trans f0, f⟩
  · rcases at_ he with ⟨_, q2⟩ | ⟨q, he⟩
    · cases q2
    · exact R0.sc j ns he
  · rcases at_ g1 with ⟨_, q2⟩ | ⟨q, g1⟩
    · cases q2
    · rcases at_ g2 with ⟨_, q2⟩ | ⟨q', g2⟩
      · cases q2
      · exact R0.di j k es fs b g1 g2 g3 g4
theorem jss_twn (i : Nat) (h : JSs X sts s) : JSs X sts (aTwn i s) := by
  obtain ⟨t, h1, h2⟩ := h.ex
  refine ⟨_, h1, fun B F0 M T env σ H F R0 A D l p => ?_⟩
  obtain ⟨x, y, p1, p2⟩ := p
  obtain ⟨T', r⟩ := R0.twn p1
  exact h2 B F0 M T' _ σ H F r A D l p2
def aDrop (α : AEx) : ASx := fun A env => α env fun _ => A.nx env
theorem js_expr (he : JE X e α) (hs : swapsWith e none pos.line X.env = pure false := by rfl) : JS X (.Expr e pos) (aDrop α) := by
  obtain ⟨t, h1, h2⟩ := he.ex
  exact ⟨_, ps_expr h1 hs, fun B F0 M T env σ H F R0 A D l p => h2 B F0 M T env σ H F R0 _ p _ fun v d H1 F1 s1 d1 p1 => l.nx T env σ H1 F1 (R0.step s1) p1⟩
/-- a list of one's own changes -/
theorem R.mutG {K : KW} {B F0 : Hp} {M T : Tws K} {env : AE} {σ : L2.St} {H F : Hp} {i : Nat} {ds es : Og} {a : Addr} {ws : HO} (R0 : R K B F0 M T env σ H F) (h : env[i]? = some (.og ds)) (ha : σ[i]? = some (some (.ref a))) (hw : OgRp K F a ws es) :
    R K B F0 M T (env.set i (.og es)) σ (upd H a ws) F := by
  obtain ⟨a', vs, e1, e2, e3, e4, e5, e6⟩ := R0.og i ds h
  rw [ha] at e1
  cases Option.some.inj e1
  have il : i < env.length := (List.getElem?_eq_some_iff.mp h).1
  have at_ : ∀ {j : Nat} {s : Sl}, (env.set i (.og es))[j]? = some s → (i = j ∧ s = .og es) ∨ (i ≠ j ∧ env[j]? = some s) := fun {j s} he => by
    by_cases q : i = j
    · subst q
      rw [List.getElem?_set_self il] at he
      cases he
      exact .inl ⟨rfl, rfl⟩
    · rw [List.getElem?_set_ne q] at he
      exact .inr ⟨q, he⟩
  refine ⟨⟨fun b u e => ?_, R0.f0, R0.new, fun b o e m => ?_, fun b t => ?_, R0.mt⟩, by rw [List.length_set]; exact R0.len, fun j d he => ?_, fun j es' he => ?_, fun j kk he => ?_, fun j ns he => ?_, fun j k es' fs b g1 g2 g3 g4 => ?_, fun j φ he => ?_⟩
  case refine_9 =>
    obtain ⟨⟨v, h1, h2⟩, h3, hj⟩ := R0.lnE (s' := .og es) (fun φ z => by cases z) (.inr ⟨_, h⟩) j φ he
    have ne : ∀ x ∈ φ.A, x ≠ a := fun x hx z => R0.lno h ha j φ hj (by rw [← z]; exact hx)
    refine ⟨⟨v, h1, φ.mono h2 (fun x hx => upd_ne (ne x hx)) fun _ _ z => z⟩, fun x hx => ?_⟩
    obtain ⟨k1, k2, k3, k4, k5⟩ := h3 x hx
    exact ⟨by rw [upd_ne (ne x hx)]; exact k1, k2, k3, k4, k5⟩
  · have : b ≠ a := fun q => by rw [q, e3] at e; cases e
    rw [upd_ne this]; exact R0.sub b u e
  · have : b ≠ a := fun q => by rw [q, e4] at e; cases e
    rw [upd_ne this]; exact R0.keep b o e m
  · have : b ≠ a := fun q => e5 (q ▸ t)
    obtain ⟨t1, t2, t3⟩ := R0.tw b t
    exact ⟨t1, Tws.mono t2 this (.inr (by rw [e2]; exact e6.mut)), t3⟩
  · rcases at_ he with ⟨_, q2⟩ | ⟨q, he⟩
    · cases q2
    · exact R0.va j d he
  · rcases at_ he with ⟨q, q2⟩ | ⟨q, he⟩
    · subst q; cases q2
      exact ⟨a, ws, ha, upd_same, e3, e4, e5, hw⟩
    · obtain ⟨c, ws', f1, f2, f3, f4, f5, f6⟩ := R0.og j es' he
      have ne : c ≠ a := fun z => by
        subst z
        exact q (R0.di i j ds es' c h he ha f1)
      exact ⟨c, ws', f1, by rw [upd_ne ne]; exact f2, f3, f4, f5, f6⟩
  · rcases at_ he with ⟨_, q2⟩ | ⟨q, he⟩
    · cases q2
    · exact R0.ti j kk he
  · rcases at_ he with ⟨_, q2⟩ | ⟨q, he⟩
    · cases q2
    · exact R0.sc j ns he
  · rcases at_ g1 with ⟨q, _⟩ | ⟨q, g1⟩
    · rcases at_ g2 with ⟨q', _⟩ | ⟨q', g2⟩
      · rw [← q, ← q']
      · subst q; exact R0.di _ _ _ _ b h g2 g3 g4
    · rcases at_ g2 with ⟨q', _⟩ | ⟨q', g2⟩
      · subst q'; exact R0.di _ _ _ _ b g1 h g3 g4
      · exact R0.di j k es' fs b g1 g2 g3 g4
/-- the own list behind a step -/
theorem R.mut {K : KW} {B F0 : Hp} {M T : Tws K} {env : AE} {σ : L2.St} {H F : Hp} {i : Nat} {ds es : List DD} {a : Addr} {ws : List V} (R0 : R K B F0 M T env σ H F) (h : env[i]? = some (.ow ds)) (ha : σ[i]? = some (some (.ref a))) (hw : RpAll K F ws es) :
    R K B F0 M T (env.set i (.ow es)) σ (upd H a (.lst ws)) F := R0.mutG h ha (.lst hw)
theorem R.owAt {K : KW} {B F0 : Hp} {M T : Tws K} {env : AE} {σ : L2.St} {H F : Hp} {i : Nat} {ds : List DD} {a : Addr} (R0 : R K B F0 M T env σ H F) (h : env[i]? = some (.ow ds)) (ha : σ[i]? = some (some (.ref a))) : ∃ vs, H a = some (.lst vs) ∧ RpAll K F vs ds := by
  obtain ⟨a', vs, e1, e2, e3, e4, e5, e6⟩ := R0.ow i ds h
  rw [ha] at e1
  cases Option.some.inj e1
  exact ⟨vs, e2, e6⟩
/-- x.append(e), x a list of one's own -/
def aApp (i : Nat) (α : AEx) : ASx := fun A env => ∃ ds, env[i]? = some (.ow ds) ∧ α env fun d => ds.length < lineD ∧ A.nx (env.set i (.ow (ds ++ [d])))
theorem js_app (i : Nat) {px apos : Pos} (he : JE X e α) (hN : X.N[i]? = some x := by rfl) (hv : Vis X.env.scope x := by first | exact Or.inl rfl | exact Or.inr (Or.inl rfl) | exact Or.inr (Or.inr rfl)) (hd : (x == ("__debug__" : Str)) = false := by decide)
    (hcd : (x == ("__classdict__" : Str)) = false := by decide) (hbase : attributeBase (.Name x px) "append" X.env (eval (.Name x px) X.env) = eval (.Name x px) X.env := by rfl)
    (hfew : ((backTo p (starEach [e] X.env)).all (fun x => !x.1) && (backToKw p (keywordEach [] X.env)).all (fun x => x.1.isSome)
      && decide ([e].length + ([] : List Keyword).length + (if ([] : List Keyword).isEmpty then 0 else 1) < 30)) = true := by rfl)
    (hline : (apos.endLine == p.line) = true := by rfl) (hs : starEach [e] X.env = (false, eval e X.env) :: starEach [] X.env := by rfl) (hplain : (backTo p (starEach [] X.env)).any (·.1) = false := by rfl)
    (hsw : swapsWith (.Call (.Attribute (.Name x px) "append" apos) [e] [] p) none pos.line X.env = pure false := by rfl) : JS X (.Expr (.Call (.Attribute (.Name x px) "append" apos) [e] [] p) pos) (aApp i α) := by
  obtain ⟨t, h1, h2⟩ := he.ex
  refine ⟨_, ps_expr (pe_bm PySem.F.plainAttrs_list PySem.F.slot_list_append PySem.F.type_list_append mt_append (pe_var hN hv hd hcd) (pa_cons h1 pa_nil hs) hbase hfew hline hs hplain) hsw, fun B F0 M T env σ H F R0 A D l p => ?_⟩
  obtain ⟨ds, p1, p2⟩ := p
  obtain ⟨a, vs, e1, e2, e3, e4, e5, e6⟩ := R0.ow i ds p1
  refine ⟨_, e1, .inl ⟨rfl, vs, .inl (.inl e2)⟩, h2 B F0 M T env σ H F R0 _ p2 _ fun v d H1 F1 s1 d1 p3 => ?_⟩
  obtain ⟨ws, f2, f6⟩ := (R0.step s1).owAt p1 e1
  exact ⟨a, ws, v, rfl, rfl, f2, by rw [f6.len]; exact line_lt p3.1, l.nx T (env.set i (.ow (ds ++ [d]))) σ _ F1 ((R0.step s1).mut p1 e1 (f6.app (.cons d1 .nil))) p3.2⟩
end
end Ab
namespace Ab
open PySem PySem.Spec PyProof.Rows L2
section
variable {X : Cx} {e a b c : Expr} {es : List Expr} {st : Stmt} {sts sts' : List Stmt} {pos p : Pos} {α β γ : AEx} {τ υ : ATx} {x : Str} {k n : Nat} {s u : ASx}
def aRet (α : AEx) : ASx := fun A env => α env A.rt
theorem js_ret (he : JE X e α) : JS X (.Return (some e) pos) (aRet α) := by
  obtain ⟨t, h1, h2⟩ := he.ex
  exact ⟨_, ps_ret h1, fun B F0 M T env σ H F R0 A D l p => h2 B F0 M T env σ H F R0 _ p _ fun v d H1 F1 s1 d1 p1 => l.rt T v d H1 F1 (R0.step s1).toGd d1 p1⟩
def aIfS (τ : ATx) (s u : ASx) : ASx := fun A env => τ env fun k => (k = true → s A env) ∧ (k = false → u A env)
theorem js_if (hc : JT X c τ) (ha : JSs X sts s) (hb : JSs X sts' u) : JS X (.If c sts sts' pos) (aIfS τ s u) := by
  obtain ⟨t, h1, h2⟩ := hc.ex
  obtain ⟨ta, a1, a2⟩ := ha.ex
  obtain ⟨tb, b1, b2⟩ := hb.ex
  refine ⟨_, ps_if h1 a1 b1, fun B F0 M T env σ H F R0 A D l p => h2 B F0 M T env σ H F R0 _ p _ fun k H1 F1 s1 p1 => ?_⟩
  cases k with
  | true => exact (if_pos rfl).mpr (a2 B F0 M T env σ H1 F1 (R0.step s1) A D l (p1.1 rfl))
  | false => exact (if_neg Bool.false_ne_true).mpr (b2 B F0 M T env σ H1 F1 (R0.step s1) A D l (p1.2 rfl))
def tgN (i : Nat) : DD → AE → (AE → Prop) → Prop := fun d env P => P (env.set i (.va d))
theorem jg_name (i : Nat) (nd : X.N.Nodup) (hi : X.N[i]? = some x := by rfl) (hx : Loc X.env.scope x := by first | exact Or.inl rfl | exact Or.inr rfl) (hf : X.fn x = true ∨ X.env.scope.names.lookup x = some .local := by first | exact .inl rfl | exact .inr rfl | assumption) : JG X (.Name x pos) (tgN i) :=
  ⟨_, pg_name nd hi hx hf, fun B F0 M T env σ H F R0 v d h P p Q q => q _ _ H F (.refl R0.bs) (R0.put h _ rfl) p⟩
def tgsNil : List DD → AE → (AE → Prop) → Prop := fun ds env P => ds = [] ∧ P env
def tgsCons (g : DD → AE → (AE → Prop) → Prop) (h : List DD → AE → (AE → Prop) → Prop) : List DD → AE → (AE → Prop) → Prop := fun ds env P => ∃ d r, ds = d :: r ∧ g d env fun env' => h r env' P
theorem jgs_nil : JGs X [] tgsNil := ⟨_, pgs_nil, fun B F0 M T env σ H F R0 vs ds h P p Q q => by
  obtain ⟨rfl, p⟩ := p
  cases h
  exact ⟨rfl, q env σ H F (.refl R0.bs) R0 p⟩⟩
theorem jgs_cons {g : DD → AE → (AE → Prop) → Prop} {h : List DD → AE → (AE → Prop) → Prop} (h1 : JG X e g) (h2 : JGs X es h) (hs : (assignEach (e :: es) X.env).map (·.2) = assign e X.env :: (assignEach es X.env).map (·.2) := by rfl) : JGs X (e :: es) (tgsCons g h) := by
  obtain ⟨t, a1, a2⟩ := h1.ex
  obtain ⟨u, b1, b2⟩ := h2.ex
  refine ⟨_, pgs_cons a1 b1 hs, fun B F0 M T env σ H F R0 vs ds hd P p Q q => ?_⟩
  obtain ⟨d, r, rfl, p⟩ := p
  cases hd with
  | cons c1 c2 => exact ⟨_, _, rfl, a2 B F0 M T env σ H F R0 _ d c1 _ p _ fun env' σ' H' F' s1 R1 p1 => b2 B F0 M T env' σ' H' F' R1 _ r (RpAll.sub s1.ext _ c2) P p1 Q fun env2 σ2 H2 F2 s2 R2 p2 => q env2 σ2 H2 F2 (s1.trans s2) R2 p2⟩
def tgTup (n : Nat) (h : List DD → AE → (AE → Prop) → Prop) : DD → AE → (AE → Prop) → Prop := fun d env P => ∃ ds, d = .tuple ds ∧ ds.length = n ∧ h ds env P
theorem jg_tup {k : Nat} {h : List DD → AE → (AE → Prop) → Prop} (hc : X.calm = true) (h1 : JGs X es h) (hn : (assignEach es X.env).length = n := by rfl) (hst : (assignEach es X.env).findIdx? (·.1) = none := by rfl) : JG X (.Tuple es k pos) (tgTup n h) := by
  obtain ⟨t, a1, a2⟩ := h1.ex
  refine ⟨_, pg_tup hc a1 hn hst, fun B F0 M T env σ H F R0 v d hd P p Q q => ?_⟩
  obtain ⟨ds, rfl, hl, p⟩ := p
  cases hd with
  | tup g1 g2 => exact ⟨_, _, rfl, R0.sub.seqT g1, by rw [g2.len]; exact hl, a2 B F0 M T env σ H F R0 _ ds g2 P p Q q⟩
def aAsg (α : AEx) (g : DD → AE → (AE → Prop) → Prop) : ASx := fun A env => α env fun d => g d env A.nx
theorem js_asg {tg : Expr} {g : DD → AE → (AE → Prop) → Prop} (he : JE X e α) (hg : JG X tg g) (hs : swapsWithSole [tg] e pos.line X.env = pure false := by rfl) (hw : swappedStores [tg] e X.env = pure none := by rfl)
    (h1 : (assignEach [tg] X.env).map (·.2) = [assign tg X.env] := by rfl) : JS X (.Assign [tg] e pos) (aAsg α g) := by
  obtain ⟨t, a1, a2⟩ := he.ex
  obtain ⟨u, b1, b2⟩ := hg.ex
  exact ⟨_, ps_asg a1 b1 hs hw h1, fun B F0 M T env σ H F R0 A D l p => a2 B F0 M T env σ H F R0 _ p _ fun v d H1 F1 s1 d1 p1 => b2 B F0 M T env σ H1 F1 (R0.step s1) v d d1 _ p1 _ fun env' σ' H' F' _ R2 p2 => l.nx T env' σ' H' F' R2 p2⟩
def aPar2 (i j : Nat) (δ : AOx) : ASx := fun A env => δ env fun ds => ∃ d e, ds = [d, e] ∧ A.nx ((env.set i (.va d)).set j (.va e))
theorem js_par2 (i j : Nat) {y : Str} {px py pt : Pos} {kt k2 : Nat} {pt2 : Pos} {δ : AOx} (hc : X.calm = true) (nd : X.N.Nodup) (ha : JD X [a, b] δ) (hi : X.N[i]? = some x := by rfl) (hj : X.N[j]? = some y := by rfl) (hij : i ≠ j := by decide)
    (hx : X.env.scope.names.lookup x = some .local := by rfl) (hy : X.env.scope.names.lookup y = some .local := by rfl)
    (hw : swappedStores [.Tuple [.Name x px, .Name y py] kt pt] (.Tuple [a, b] k2 pt2) X.env = pure (some [x, y]) := by rfl)
    (hs : swapsWithSole [.Tuple [.Name x px, .Name y py] kt pt] (.Tuple [a, b] k2 pt2) pos.line X.env = pure false := by rfl) : JS X (.Assign [.Tuple [.Name x px, .Name y py] kt pt] (.Tuple [a, b] k2 pt2) pos) (aPar2 i j δ) := by
  obtain ⟨t, a1, a2⟩ := ha.ex
  refine ⟨_, ps_par hc nd hi hj hij hx hy a1 hw hs, fun B F0 M T env σ H F R0 A D l p => a2 B F0 M T env σ H F R0 _ p _ fun vs ds H1 F1 s1 d1 p1 => ?_⟩
  obtain ⟨d, e, rfl, p1⟩ := p1
  obtain ⟨v, w, rfl, h1, h2⟩ := two_of d1
  exact ⟨v, w, rfl, l.nx T _ _ H1 F1 (((R0.step s1).put h1 _ rfl).put h2 _ rfl) p1⟩
def aPar3 (i j k : Nat) (δ : AOx) : ASx := fun A env => δ env fun ds => ∃ d e f, ds = [d, e, f] ∧ A.nx (((env.set i (.va d)).set j (.va e)).set k (.va f))
def aAug (i : Nat) (f : Int → Int → Int) (α : AEx) : ASx := fun A env => ∃ m, env[i]? = some (.va (.int m)) ∧ α env fun d => ∃ n, d = .int n ∧ A.nx (env.set i (.va (.int (f m n))))
theorem js_aug (i : Nat) {op : Operator} {f : Int → Int → Int} (ho : PIp X op (ipI f)) (nd : X.N.Nodup) (he : JE X e α) (hi : X.N[i]? = some x := by rfl) (hx : Loc X.env.scope x := by first | exact Or.inl rfl | exact Or.inr rfl)
    (hf : X.fn x = true ∨ X.env.scope.names.lookup x = some .local := by first | exact .inl rfl | exact .inr rfl | assumption) : JS X (.AugAssign (.Name x p) op e pos) (aAug i f α) := by
  obtain ⟨t, a1, a2⟩ := he.ex
  refine ⟨_, ps_aug nd hi hx a1 ho hf, fun B F0 M T env σ H F R0 A D l q => ?_⟩
  obtain ⟨m, q1, q2⟩ := q
  obtain ⟨v, e1, e2⟩ := R0.va i _ q1
  cases e2
  refine ⟨_, e1, a2 B F0 M T env σ H F R0 _ q2 _ fun v d H1 F1 s1 d1 p1 => ?_⟩
  obtain ⟨n, rfl, p1⟩ := p1
  cases d1
  exact ⟨m, n, rfl, rfl, l.nx T _ _ H1 F1 ((R0.step s1).put (.int _) _ rfl) p1⟩
/-- the iterator yields the data ds, whatever is made meanwhile -/
def Itm (K : KW) (F1 : Hp) (J : It) (ds : List DD) : Prop := ∀ (T : Tws K) (i : Nat) (H F : Hp), Bs T H F → Sub F1 F →
  (i < ds.length → J.go i H ∧ ∀ x H', J.yld i H x H' → ∃ F' d, ds[i]? = some d ∧ Stp T H F H' F' ∧ Rp K F' x d) ∧ (ds.length ≤ i → J.stop i H)
def SimI (K : KW) (wi : TI) (ι : AOx) : Prop := ∀ B F0 M T env σ H F, R K B F0 M T env σ H F → ∀ P, ι env P → ∀ Q : It → Hp → Prop, (∀ J ds H' F', Stp T H F H' F' → Itm K F' J ds → P ds → Q J H') → wi σ H Q
structure JI (X : Cx) (tg e : Expr) (ι : AOx) : Prop where ex : ∃ wi, PI X tg e wi ∧ SimI (kw X) wi ι
def iL (α : AEx) : AOx := fun env P => α env fun x => ∃ ds, x = .list ds ∧ P ds
def iT (α : AEx) : AOx := fun env P => α env fun x => ∃ ds, x = .tuple ds ∧ P ds
theorem ji_list {tg : Expr} (he : JE X e α) : JI X tg e (iL α) := by
  obtain ⟨t, a1, a2⟩ := he.ex
  refine ⟨_, pi_list a1, fun B F0 M T env σ H F R0 P p Q q => a2 B F0 M T env σ H F R0 _ p _ fun v d H1 F1 s1 d1 p1 => ?_⟩
  obtain ⟨ds, rfl, p1⟩ := p1
  cases d1 with
  | @lst a vs _ g1 g2 =>
    refine ⟨a, rfl, ⟨vs, .inl (.inl ((R0.step s1).sub _ _ g1))⟩, q _ ds H1 F1 s1 (fun T i H F b sb => ⟨fun hi => ?_, fun hi => ?_⟩) p1⟩
    · have hS : SqL (kw X) H a vs := .inl (.inl (b.sub _ _ (sb _ _ g1)))
      have hg : ds[i]? = some ds[i] := List.getElem?_eq_getElem hi
      obtain ⟨v, hv, rv⟩ := g2.get hg
      refine ⟨⟨vs, v, hS, hv⟩, fun x H' y => ?_⟩
      obtain ⟨rfl, y⟩ := y
      have := y vs hS
      rw [hv] at this
      cases Option.some.inj this
      exact ⟨F, _, hg, .refl b, Rp.sub sb _ rv⟩
    · exact ⟨vs, .inl (.inl (b.sub _ _ (sb _ _ g1))), by rw [g2.len]; exact hi⟩
def iR1 (δ : AOx) : AOx := fun env P => δ env fun ds => ∃ n : Int, ds = [.int n] ∧ -1000000 ≤ n ∧ n ≤ 1000000 ∧ P ((List.range n.toNat).map fun (i : Nat) => PyData.int (i : Int))
theorem ji_range1 {tg : Expr} {δ : AOx} (hm : X.mg "range" = none) (ha : JD X [a] δ) (hg : Gl X "range" := by rfl) (hs : starEach [a] X.env = [(false, eval a X.env)] := by rfl) : JI X tg (.Call (.Name "range" p) [a] [] pos) (iR1 δ) := by
  obtain ⟨t, a1, a2⟩ := ha.ex
  refine ⟨_, pi_range1 hg hm a1 hs, fun B F0 M T env σ H F R0 P p Q q => a2 B F0 M T env σ H F R0 _ p _ fun vs ds H1 F1 s1 d1 p1 => ?_⟩
  obtain ⟨n, rfl, n1, n2, p1⟩ := p1
  obtain ⟨v, rfl, h⟩ := one_of d1
  cases h
  refine ⟨n, rfl, by omega, by omega, q _ _ H1 F1 s1 (fun T i H F b sb => ⟨fun hi => ?_, fun hi => ?_⟩) p1⟩
  · rw [List.length_map, List.length_range] at hi
    refine ⟨hi, fun x H' y => ?_⟩
    obtain ⟨rfl, rfl⟩ := y
    refine ⟨F, .int (i : Int), ?_, .refl b, ?_⟩
    · rw [List.getElem?_map, List.getElem?_range hi]; rfl
    · rw [Int.zero_add]; exact .int _
  · rw [List.length_map, List.length_range] at hi
    exact hi
def enumD (ds : List DD) : List DD := (List.range ds.length).zip ds |>.map fun p => .tuple [.int (p.1 : Int), p.2]
def iE (δ : AOx) : AOx := fun env P => δ env fun ds => ∃ xs, ds = [.list xs] ∧ P (enumD xs)
def zipD (xs ys : List DD) : List DD := (xs.zip ys).map fun p => .tuple [p.1, p.2]
def iZ (δ : AOx) : AOx := fun env P => δ env fun ds => ∃ xs ys, ds = [.list xs, .list ys] ∧ P (zipD xs ys)
def aLoop (g : DD → AE → (AE → Prop) → Prop) (s : ASx) (A : AEnds) : List DD → AE → Prop
  | [] => A.nx
  | d :: ds => fun env => g d env fun env' => s { A with nx := aLoop g s A ds, ct := aLoop g s A ds, bk := A.nx } env'
def aFor (ι : AOx) (g : DD → AE → (AE → Prop) → Prop) (s : ASx) : ASx := fun A env => ι env fun ds => aLoop g s A ds env
theorem Lk.loop {K : KW} {B F0 : Hp} {M : Tws K} {A : AEnds} {D : Ends} (l : Lk K B F0 M A D) {f : AE → Prop} {g : L2.St → Hp → Prop} (h : ∀ T env σ H F, R K B F0 M T env σ H F → f env → g σ H) : Lk K B F0 M { A with nx := f, ct := f, bk := A.nx } { D with nx := g, ct := g, bk := D.nx } := ⟨h, l.rt, l.nx, h, l.rtO, l.rtE⟩
theorem Lk.back {K : KW} {B F0 F1 H1 : Hp} {M T1 : Tws K} {A : AEnds} {D : Ends} (g : Gd B F0 M T1 H1 F1) (l : Lk K B F0 M A D) : Lk K B F1 M A D :=
  ⟨fun T env σ H F r q => l.nx T env σ H F (r.back g) q, fun T v d H F r h q => l.rt T v d H F (g.back r) h q, fun T env σ H F r q => l.bk T env σ H F (r.back g) q, fun T env σ H F r q => l.ct T env σ H F (r.back g) q, fun T a ds H F r h b q => l.rtO T a ds H F (g.back r) h b q, fun T v d env σ H F r h q => l.rtE T v d env σ H F (r.back g) h q⟩
theorem sim_for {K : KW} {wi : TI} {g : TG} {tb : TS} {ι : AOx} {gg : DD → AE → (AE → Prop) → Prop} (hi : SimI K wi ι) (hg : SimG K g gg) (hb : SimS K tb s) : SimS K (tFor wi g tb) (aFor ι gg s) := fun B F0 M T env σ H F R0 A D l p =>
  hi B F0 M T env σ H F R0 _ p _ fun J ds H1 F1 s1 it p1 => by
    have R1 := R0.step s1
    have l1 := l.back R1.toGd
    refine ⟨fun i m σ H => ∃ T env F, R K B F1 M T env σ H F ∧ m = ds.length - i ∧ i ≤ ds.length ∧ aLoop gg s A (ds.drop i) env, ⟨_, T, env, F1, R1.base, rfl, Nat.zero_le _, p1⟩, ?_⟩
    rintro i m σ' H' ⟨T', env', F', R2, rfl, hi', q⟩
    by_cases hlt : i < ds.length
    · obtain ⟨go, yl⟩ := (it T' i H' F' R2.bs R2.f0).1 hlt
      refine .inr ⟨go, fun σ2 H2 => ∃ T env F, R K B F1 M T env σ2 H2 F ∧ aLoop gg s A (ds.drop (i + 1)) env, fun σ2 H2 ⟨T2, env2, F2, r2, q2⟩ => ⟨ds.length - (i + 1), by omega, T2, env2, F2, r2, rfl, hlt, q2⟩, fun x H2 y => ?_⟩
      obtain ⟨F2, d, hd, st, rx⟩ := yl x H2 y
      rw [List.drop_eq_getElem_cons hlt] at q
      have ed : ds[i] = d := by
        rw [List.getElem?_eq_getElem hlt] at hd
        exact Option.some.inj hd
      rw [ed] at q
      refine hg B F1 M T' env' σ' H2 F2 (R2.step st) x d rx _ q _ fun env3 σ3 H3 F3 _ R3 q3 => ?_
      exact hb B F1 M T' env3 σ3 H3 F3 R3 _ _ (l1.loop fun T env σ H F r q => ⟨T, env, F, r, q⟩) q3
    · have e : i = ds.length := by omega
      subst e
      rw [List.drop_length] at q
      exact .inl ⟨(it T' _ H' F' R2.bs R2.f0).2 (Nat.le_refl _), l1.nx T' env' σ' H' F' R2 q⟩
theorem js_for {tg iter : Expr} {ι : AOx} {g : DD → AE → (AE → Prop) → Prop} (hp : PassesOwn (model X.prog X.w) X.A X.env X.xe) (hc : X.calm = true) (hi : JI X tg iter ι) (hg : JG X tg g) (hb : JSs X sts s) (hs : ∀ x, foldedSetIterable iter X.env x = pure x := by intro _; rfl) :
    JS X (.For tg iter sts [] pos) (aFor ι g s) := by
  obtain ⟨wi, a1, a2⟩ := hi.ex
  obtain ⟨t, b1, b2⟩ := hg.ex
  obtain ⟨u, c1, c2⟩ := hb.ex
  exact ⟨_, ps_for hp hc a1 b1 c1 hs, sim_for a2 b2 c2⟩
end
end Ab
namespace Ab
open PySem PySem.Spec PyProof.Rows L2
def canE (K : KW) (α : AEx) : TE := fun σ H Q => ∃ B F0 M T env F, R K B F0 M T env σ H F ∧ ∃ P, α env P ∧ ∀ v d H' F', Stp T H F H' F' → Rp K F' v d → P d → Q v H'
def canT (K : KW) (τ : ATx) : TT := fun σ H Q => ∃ B F0 M T env F, R K B F0 M T env σ H F ∧ ∃ P, τ env P ∧ ∀ b H' F', Stp T H F H' F' → P b → Q b H'
section
variable {X : Cx} {e : Expr} {α : AEx} {τ : ATx}
theorem JE.can (h : JE X e α) : PE X e (canE (kw X) α) := by
  obtain ⟨t, h1, h2⟩ := h.ex
  refine ⟨fun pins s σ H Q I hw => h1.run pins s σ H Q I ?_⟩
  obtain ⟨B, F0, M, T, env, F, r, P, p, q⟩ := hw
  exact h2 B F0 M T env σ H F r P p Q q
theorem JT.can (h : JT X e τ) : PT X e (canT (kw X) τ) := by
  obtain ⟨t, h1, h2⟩ := h.ex
  refine ⟨fun pins s σ H Q I hw => h1.run pins s σ H Q I ?_⟩
  obtain ⟨B, F0, M, T, env, F, r, P, p, q⟩ := hw
  exact h2 B F0 M T env σ H F r P p Q q
theorem sim_canE {K : KW} {α : AEx} : SimE K (canE K α) α := fun B F0 M T env σ H F r P p Q q => ⟨B, F0, M, T, env, F, r, P, p, q⟩
end
def aYes : ATx := fun _ P => P true
theorem sim_yes {K : KW} : SimT K tYes aYes := fun B F0 M T env σ H F r P p Q q => q true H F (.refl r.bs) p
def aColl (g : DD → AE → (AE → Prop) → Prop) (τ : ATx) (α : AEx) (env : AE) (P : List DD → Prop) : List DD → List DD → Prop
  | [], acc => P acc
  | d :: ds, acc => g d env fun env' => τ env' fun b => (b = true → α env' fun y => aColl g τ α env P ds (acc ++ [y])) ∧ (b = false → aColl g τ α env P ds acc)
/-- the names of a block, forgotten -/
def wipeE (env : AE) : List Nat → AE
  | [] => env
  | v :: vs => (wipeE env vs).set v .un
def aLc (vs : List Nat) (ι : AOx) (g : DD → AE → (AE → Prop) → Prop) (τ : ATx) (α : AEx) : AOx := fun env P => ι env fun ds => ds.length ≤ lineD ∧ aColl g τ α (wipeE env vs) P ds []
theorem R.unset {K : KW} {B F0 : Hp} {M T : Tws K} {env : AE} {σ : L2.St} {H F : Hp} (i : Nat) (r : R K B F0 M T env σ H F) : R K B F0 M T (env.set i .un) (σ.set i none) H F := by
  have at_ : ∀ {j : Nat} {s : Sl}, (env.set i .un)[j]? = some s → s ≠ .un → i ≠ j ∧ env[j]? = some s := fun {j s} e n => by
    by_cases q : i = j
    · subst q
      have hl : i < env.length := by
        have := (List.getElem?_eq_some_iff.mp e).1
        rwa [List.length_set] at this
      rw [List.getElem?_set_self hl] at e
      exact absurd (Option.some.inj e).symm n
    · rw [List.getElem?_set_ne q] at e
      exact ⟨q, e⟩
  refine ⟨r.toGd, by rw [List.length_set, List.length_set]; exact r.len, fun j d e => ?_, fun j ds e => ?_, fun j kk e => ?_, fun j ns e => ?_, fun j k ds es a h1 h2 h3 h4 => ?_, r.lnS (fun φ z => by cases z) (fun g a z => by cases z)⟩
  · obtain ⟨q, e⟩ := at_ e (by intro z; cases z)
    rw [List.getElem?_set_ne q]; exact r.va j d e
  · obtain ⟨q, e⟩ := at_ e (by intro z; cases z)
    rw [List.getElem?_set_ne q]; exact r.og j ds e
  · obtain ⟨q, e⟩ := at_ e (by intro z; cases z)
    rw [List.getElem?_set_ne q]; exact r.ti j kk e
  · obtain ⟨q, e⟩ := at_ e (by intro z; cases z)
    rw [List.getElem?_set_ne q]; exact r.sc j ns e
  · obtain ⟨q1, h1⟩ := at_ h1 (by intro z; cases z)
    obtain ⟨q2, h2⟩ := at_ h2 (by intro z; cases z)
    rw [List.getElem?_set_ne q1] at h3
    rw [List.getElem?_set_ne q2] at h4
    exact r.di j k ds es a h1 h2 h3 h4
theorem R.wipe {K : KW} {B F0 : Hp} {M T : Tws K} {env : AE} {σ : L2.St} {H F : Hp} (r : R K B F0 M T env σ H F) : ∀ (vs : List Nat), R K B F0 M T (wipeE env vs) (wipe σ vs) H F
  | [] => r
  | v :: vs => (R.wipe r vs).unset v
/-- a target of a block: what it stores is forgotten behind it -/
def SimGw (K : KW) (vs : List Nat) (g : TG) (γ : DD → AE → (AE → Prop) → Prop) : Prop := ∀ B F0 M T env σ H F, R K B F0 M T env (wipe σ vs) H F → ∀ v d, Rp K F v d → ∀ P, γ d env P → ∀ Q : L2.St → Hp → Prop,
  (∀ env' σ' H' F', Stp T H F H' F' → R K B F0 M T env' σ' H' F' → wipe σ' vs = wipe σ vs → P env' → Q σ' H') → g v (wipe σ vs) H Q
theorem simgw_name {K : KW} {i : Nat} : SimGw K [i] (gName i) (tgN i) := fun B F0 M T env σ H F R0 v d h P p Q q => by
  refine q _ _ H F (.refl R0.bs) (R0.put h _ rfl) ?_ p
  show ((σ.set i none).set i (some v)).set i none = σ.set i none
  rw [List.set_set, List.set_set]
theorem sim_lc {K : KW} {wi : TI} {g : TG} {tt : TT} {te : TE} {vs : List Nat} {ι : AOx} {gg : DD → AE → (AE → Prop) → Prop} {τ : ATx} {α : AEx} (hi : SimI K wi ι) (hg : SimGw K vs g gg) (ht : SimT K tt τ) (he : SimE K te α) : SimO K (tLc wi g tt te vs) (aLc vs ι gg τ α) :=
  fun B F0 M T env σ H F R0 P p Q q => hi B F0 M T env σ H F R0 _ p _ fun J ds H1 F1 s1 it p1 => fun Dl hD => by
    have R1 := R0.step s1
    have nT : ¬ T Dl := fun t => by
      obtain ⟨_, z⟩ := Tws.has (R1.toGd.tw Dl t).2.1
      rw [hD] at z; cases z
    refine ⟨fun i m H => ∃ F acc ws, m = ds.length - i ∧ i ≤ ds.length ∧ Stp T H1 F1 H F ∧ H Dl = some (.lst ws) ∧ F Dl = none ∧ RpAll K F ws acc ∧ acc.length ≤ i ∧ aColl gg τ α (wipeE env vs) P (ds.drop i) acc,
      ⟨_, F1, [], [], rfl, Nat.zero_le _, .al0 R1.bs hD, upd_same, fnone R1.bs hD, .nil, Nat.le_refl _, p1.2⟩, ?_⟩
    rintro i m H2 ⟨F2, acc, ws, rfl, hi', s2, h1, h2, h3, h4, q2⟩
    have R2 := R1.step s2
    by_cases hlt : i < ds.length
    · obtain ⟨go, yl⟩ := (it T i H2 F2 R2.bs s2.ext).1 hlt
      refine .inr ⟨go, fun H => ∃ F acc ws, Stp T H1 F1 H F ∧ H Dl = some (.lst ws) ∧ F Dl = none ∧ RpAll K F ws acc ∧ acc.length ≤ i + 1 ∧ aColl gg τ α (wipeE env vs) P (ds.drop (i + 1)) acc,
        fun H' ⟨F', acc', ws', a1, a2, a3, a4, a5, a6⟩ => ⟨ds.length - (i + 1), by omega, F', acc', ws', rfl, hlt, a1, a2, a3, a4, a5, a6⟩, fun x H3 y => ?_⟩
      obtain ⟨F3, d, hd, s3, rx⟩ := yl x H3 y
      rw [List.drop_eq_getElem_cons hlt] at q2
      have ed : ds[i] = d := by
        rw [List.getElem?_eq_getElem hlt] at hd
        exact Option.some.inj hd
      rw [ed] at q2
      refine hg B F0 M T (wipeE env vs) σ H3 F3 ((R2.step s3).wipe vs) x d rx _ q2 _ fun env4 σ4 H4 F4 s4 R4 ew q4 => ⟨ew, ?_⟩
      refine ht B F0 M T env4 σ4 H4 F4 R4 _ q4 _ fun b H5 F5 s5 q5 => ?_
      have s25 := (s3.trans s4).trans s5
      have k5 : H5 Dl = some (.lst ws) := s25.keep Dl _ h1 nT
      have n5 : ∀ {H' F'}, Stp T H2 F2 H' F' → F' Dl = none := fun {H' F'} st => by
        cases e : F' Dl with
        | none => rfl
        | some o =>
          rcases st.new Dl o e with z | z
          · rw [h2] at z; cases z
          · rw [h1] at z; cases z
      cases b with
      | true =>
        refine (if_pos rfl).mpr (he B F0 M T env4 σ4 H5 F5 (R4.step s5) _ (q5.1 rfl) _ fun v y H6 F6 s6 ry q6 => ?_)
        have s26 := s25.trans s6
        have b6 : Bs T H6 F6 := ((R2.step s26)).bs
        refine ⟨ws, s26.keep Dl _ h1 nT, line_lt (by rw [h3.len]; exact Nat.lt_of_le_of_lt h4 (Nat.lt_of_lt_of_le hlt p1.1)), F6, acc ++ [y], ws ++ [v], ?_, upd_same, n5 s26, (RpAll.sub s26.ext _ h3).app (.cons ry .nil), by rw [List.length_append]; exact Nat.add_le_add_right h4 1, q6⟩
        have s16 := s2.trans s26
        refine ⟨fun a o e => ?_, s16.ext, s16.new, fun a o e t => ?_, fun a t => ?_⟩
        · have : a ≠ Dl := fun z => by rw [z, n5 s26] at e; cases e
          rw [upd_ne this]; exact s16.sub a o e
        · have : a ≠ Dl := fun z => by rw [z, hD] at e; cases e
          rw [upd_ne this]; exact s16.keep a o e t
        · have : a ≠ Dl := fun z => nT (z ▸ t)
          exact Tws.mono (s16.tc a t) this (.inr (by rw [s26.keep Dl _ h1 nT]; trivial))
      | false =>
        exact (if_neg Bool.false_ne_true).mpr ⟨F5, acc, ws, s2.trans s25, k5, n5 s25, RpAll.sub s25.ext _ h3, Nat.le_succ_of_le h4, q5.2 rfl⟩
    · have e : i = ds.length := by omega
      subst e
      rw [List.drop_length] at q2
      exact .inl ⟨(it T _ H2 F2 R2.bs s2.ext).2 (Nat.le_refl _), q Dl ws acc H2 F2 (s1.trans s2) h1 h2 (s1.dom hD) h3 q2⟩
section
variable {X : Cx} {elt tg iter c : Expr} {scope : Scope} {own : List (Str × Nat)} {pos : Pos} {ι : AOx} {g : TG} {gg : DD → AE → (AE → Prop) → Prop} {τ : ATx} {α : AEx}
/-- [elt for tg in iter] -/
theorem j_lc (hc : X.calm = true) (nd : X.N.Nodup) (hi : JI X tg iter ι) (ok : BlkOk X.N X.env.scope scope own)
    (hg : ∀ (s : Shared) (H : Hp) (C : Addr) (cl : List (Str × Addr)) (fp : List Addr), PG (X.blk s H scope (compEnvC scope cl C X.env) fp) tg g) (hgw : SimGw (kw X) (own.map (·.2)) g gg)
    (he : ∀ (s : Shared) (H : Hp) (C : Addr) (cl : List (Str × Addr)) (fp : List Addr), JE (X.blk s H scope (compEnvC scope cl C X.env) fp) elt α) (hs : ∀ x, foldedSetIterable iter X.env x = pure x := by intro _; rfl) :
    JO X (.ListComp elt [⟨tg, iter, [], 0⟩] scope pos) (aLc (own.map (·.2)) ι gg aYes α) := by
  obtain ⟨wi, a1, a2⟩ := hi.ex
  exact ⟨_, pe_lc hc nd a1 ok hg (fun _ _ _ _ _ => pts_nil) (fun s H C cl fp => (he s H C cl fp).can) hs, sim_lc a2 hgw sim_yes sim_canE⟩
end
theorem start_len (N : List Str) (vs : List V) : (L2.start N vs).length = vs.length + (N.length - vs.length) := by
  unfold L2.start
  rw [List.length_append, List.length_map, List.length_replicate]
theorem start_get {N : List Str} {vs : List V} {i : Nat} {v : V} (h : vs[i]? = some v) : (L2.start N vs)[i]? = some (some v) := by
  have hi := (List.getElem?_eq_some_iff.mp h).1
  unfold L2.start
  rw [List.getElem?_append_left (by rw [List.length_map]; exact hi), List.getElem?_map, h]
  rfl
theorem paired_get {K : KW} {T : Tws K} {F : Hp} : ∀ {vs : List V} {as : AE} {i : Nat} {s : Sl}, Paired (Arg K T F) vs as → as[i]? = some s → ∃ v, vs[i]? = some v ∧ Arg K T F v s
  | _, _, _, _, .nil, e => by simp at e
  | _, _, 0, _, .cons r _, e => by cases Option.some.inj e; exact ⟨_, rfl, r⟩
  | _, _, i + 1, _, .cons _ t, e => paired_get (i := i) t (by simpa using e)
theorem def_fn {P : Program} {w : World} {K : PySem.W.Frag} {mg : Str → Option Value} {base : Heap} {k : Nat} {x qual : Str} {st : Stmt} {f : Addr} {fd : FuncData} {N ps : List Str} {W : Wt} (us : AE) (F : Fun K x qual st f fd) (S : FnScope N ps (defScope st))
    (hbody : ∃ a : ASx, (∀ (cdv : Value) (A : Around) (outer : List Env) (s : Shared) (H : Hp) (E : XK), Room k (A.deeper (envOfC qual (defScope st) s.heap.objs.size f cdv)) → JSs (cxOf CX0 P w K mg base N qual (defScope st) f cdv A outer s H E).nox (defBody st) a) ∧
      ∀ as Q, as.length = ps.length → W as Q → a { nx := fun _ => Q .none, rt := Q } (as ++ us))
    (hus : us = List.replicate (N.length - ps.length) Sl.un := by rfl) : FnOk P w K mg base CX0 (k + 1) f fd ps (spA ⟨K, P, w⟩ ps.length W) := by
  refine F.ok S (fun vs H Q E h => spA_len vs H Q E h) (fun cdv A outer s H vs Q E hr h => ?_)
  obtain ⟨a, hb1, hb2⟩ := hbody
  obtain ⟨F1, T, as, Pd, b, pr, hl, hw, q⟩ := h
  obtain ⟨t, h1, h2⟩ := (hb1 cdv A outer s H E hr).ex
  have hvl : vs.length = as.length := pairedLen pr
  refine ⟨t, h1, h2 H F1 T T (as ++ us) (L2.start N vs) H F1 ?_ _ _ ?_ (hb2 as Pd hl hw)⟩
  · have at_ : ∀ {i : Nat} {s : Sl}, (as ++ us)[i]? = some s → s ≠ .un → as[i]? = some s := fun {i s} e n => by
      by_cases hi : i < as.length
      · rwa [List.getElem?_append_left hi] at e
      · rw [List.getElem?_append_right (by omega), hus, List.getElem?_replicate] at e
        split at e
        · exact absurd (Option.some.inj e).symm n
        · cases e
    refine ⟨⟨b.sub, Sub.refl _, fun _ _ h => .inl h, fun _ _ h _ => h, fun a t => ⟨(b.tw a t).1, (b.tw a t).2, .inl t⟩, fun _ h => ⟨h, KdLe.refl _⟩⟩, ?_, fun i d e => ?_, fun i ds e => ?_, fun i kk e => ?_, fun i ns e => ?_, fun i j ds es a h1 _ _ _ => ?_, fun i φ e => ?_⟩
    case refine_7 =>
      obtain ⟨v, hv, ha⟩ := paired_get pr (at_ e (by intro z; cases z))
      obtain ⟨a0, a1⟩ := ha.lnAt
      exact ⟨⟨v, start_get hv, a1 _⟩, fun x hx => absurd hx (by rw [a0]; simp)⟩
    · rw [List.length_append, start_len, hus, List.length_replicate, hvl, hl]
    · obtain ⟨v, hv, ha⟩ := paired_get pr (at_ e (by intro z; cases z))
      cases ha with
      | va h => exact ⟨v, start_get hv, h⟩
    · obtain ⟨v, hv, ha⟩ := paired_get pr (at_ e (by intro z; cases z))
      cases ha
    · obtain ⟨v, hv, ha⟩ := paired_get pr (at_ e (by intro z; cases z))
      cases ha with
      | ty h e => exact ⟨_, h, e, start_get hv⟩
    · obtain ⟨v, hv, ha⟩ := paired_get pr (at_ e (by intro z; cases z))
      cases ha with
      | sc h => exact ⟨_, start_get hv, h⟩
    · obtain ⟨v, hv, ha⟩ := paired_get pr (at_ h1 (by intro z; cases z))
      cases ha
  · have fin : ∀ T' v d H' F', Gd H F1 T T' H' F' → Rp ⟨K, P, w⟩ F' v d → Pd d → Q v H' := fun T' v d H' F' g r p =>
      q v d H' F' ⟨g.sub, g.f0, g.new, g.keep, fun a t => Tws.le_ok (g.tw a (g.mt a t).1).2.1 (g.mt a t).2⟩ r p
    exact ⟨fun T' env σ H' F' r p => fin T' .non .none H' F' r.toGd .non p, fin, fun _ _ _ _ _ _ z => z.elim, fun _ _ _ _ _ _ z => z.elim, fun _ _ _ _ _ _ _ _ z => z.elim, fun _ _ _ _ _ _ _ _ _ z => z.elim⟩
theorem def_ok {P : Program} {w : World} {K : PySem.W.Frag} {mg : Str → Option Value} {base : Heap} {k : Nat} {x qual : Str} {st : Stmt} {f : Addr} {fd : FuncData} {N ps : List Str} {W : Wt} (us : AE) (F : Fun K x qual st f fd) (S : FnScope N ps (defScope st))
    (gm : mg x = some (.ref f)) (hb : Binds K fd ps [])
    (hbody : ∃ a : ASx, (∀ (cdv : Value) (A : Around) (outer : List Env) (s : Shared) (H : Hp) (E : XK), Room k (A.deeper (envOfC qual (defScope st) s.heap.objs.size f cdv)) → JSs (cxOf CX0 P w K mg base N qual (defScope st) f cdv A outer s H E).nox (defBody st) a) ∧
      ∀ as Q, as.length = ps.length → W as Q → a { nx := fun _ => Q .none, rt := Q } (as ++ us))
    (hus : us = List.replicate (N.length - ps.length) Sl.un := by rfl) : Cl P w K mg base (k + 1) x ps.length W :=
  ⟨f, fd, ps, def_fn us F S hbody hus, gm, F.kp, hb⟩
/-- law's promise, and its end -/
def WLaw : Wt := fun as P => ∃ ns : List Int, as = [.sc ns] ∧ ns.length ≤ 63 ∧ P (.bool true)
theorem law_sp {K : KW} {H : Hp} {a : Addr} {ns : List Int} (hl : ns.length ≤ 63) (h : SqL K H a (ns.map V.int)) : spA K 1 WLaw [.ref a] H (fun v _ => v = .bl true) fun _ _ _ => False :=
  ⟨H, ⟨fun _ => False, fun _ => none⟩, [.sc ns], fun d => d = .bool true, ⟨Sub.refl _, fun _ t => t.elim⟩, .cons (.sc h) .nil, rfl, ⟨ns, rfl, hl, rfl⟩, fun v d H' F' _ r e => by subst e; cases r; rfl⟩
end Ab
namespace Ab
open PySem PySem.Spec PyProof.Rows L2
section
variable {X : Cx} {e : Expr} {pos : Pos} {α : AOx}
def aRetO (α : AOx) : ASx := fun A env => α env fun ds => A.rtO ds
theorem js_retO (he : JO X e α) : JS X (.Return (some e) pos) (aRetO α) := by
  obtain ⟨t, h1, h2⟩ := he.ex
  exact ⟨_, ps_ret h1, fun B F0 M T env σ H F R0 A D l p => h2 B F0 M T env σ H F R0 _ p _ fun a vs ds H1 F1 s1 g1 g2 g3 d1 p1 =>
    l.rtO T a ds H1 (upd F1 a (.lst vs)) (R0.step (s1.fz g3 g1 g2)).toGd (.lst upd_same (RpAll.sub (sub_upd g2) _ d1)) (R0.toGd.dom g3) p1⟩
end
section
variable {X : Cx} {e : Expr} {pos : Pos} {α : AEx}
def aRetE (α : AEx) : ASx := fun A env => α env fun d => A.rtE d env
theorem js_retE (he : JE X e α) : JS X (.Return (some e) pos) (aRetE α) := by
  obtain ⟨t, h1, h2⟩ := he.ex
  exact ⟨_, ps_ret h1, fun B F0 M T env σ H F R0 A D l p => h2 B F0 M T env σ H F R0 _ p _ fun v d H1 F1 s1 d1 p1 => l.rtE T v d env σ H1 F1 (R0.step s1) d1 p1⟩
end
abbrev WtO := AE → (List DD → Prop) → Prop
def spAO (K : KW) (n : Nat) (W : WtO) : Sp := fun vs H Q _ => ∃ (F : Hp) (T : Tws K) (as : AE) (P : List DD → Prop), Bs T H F ∧ Paired (Arg K T F) vs as ∧ as.length = n ∧ W as P ∧ ∀ a ds H' F', Stp T H F H' F' → Rp K F' (.ref a) (.list ds) → H a = none → P ds → Q (.ref a) H'
/-- what it promises without that it is new -/
theorem spAO_spA {K : KW} {n : Nat} {W : WtO} {vs : List V} {H : Hp} {Q : VK} {E : XK} (h : spA K n (fun as P => W as fun ds => P (.list ds)) vs H Q E) : spAO K n W vs H Q E := by
  obtain ⟨F, T, as, P, b, pr, hl, hw, q⟩ := h
  exact ⟨F, T, as, _, b, pr, hl, hw, fun a ds H' F' s r _ p => q _ _ H' F' s r p⟩
theorem spAO_len {K : KW} {n : Nat} {W : WtO} : ∀ vs H Q E, spAO K n W vs H Q E → vs.length = n := fun vs H Q E h => by
  obtain ⟨F, T, as, P, _, h2, h3, _⟩ := h
  rw [← h3]
  exact pairedLen h2
/-- a def that hands a new list back -/
theorem def_fnO {P : Program} {w : World} {K : PySem.W.Frag} {mg : Str → Option Value} {base : Heap} {k : Nat} {x qual : Str} {st : Stmt} {f : Addr} {fd : FuncData} {N ps : List Str} {W : WtO} (us : AE) (F : Fun K x qual st f fd) (S : FnScope N ps (defScope st))
    (hbody : ∃ a : ASx, (∀ (cdv : Value) (A : Around) (outer : List Env) (s : Shared) (H : Hp) (E : XK), Room k (A.deeper (envOfC qual (defScope st) s.heap.objs.size f cdv)) → JSs (cxOf CX0 P w K mg base N qual (defScope st) f cdv A outer s H E).nox (defBody st) a) ∧
      ∀ as Q, as.length = ps.length → W as Q → a { nx := fun _ => False, rt := fun _ => False, rtO := Q } (as ++ us))
    (hus : us = List.replicate (N.length - ps.length) Sl.un := by rfl) : FnOk P w K mg base CX0 (k + 1) f fd ps (spAO ⟨K, P, w⟩ ps.length W) := by
  refine F.ok S (fun vs H Q E h => spAO_len vs H Q E h) (fun cdv A outer s H vs Q E hr h => ?_)
  obtain ⟨a, hb1, hb2⟩ := hbody
  obtain ⟨F1, T, as, Pd, b, pr, hl, hw, q⟩ := h
  obtain ⟨t, h1, h2⟩ := (hb1 cdv A outer s H E hr).ex
  have hvl : vs.length = as.length := pairedLen pr
  refine ⟨t, h1, h2 H F1 T T (as ++ us) (L2.start N vs) H F1 ?_ _ _ ?_ (hb2 as Pd hl hw)⟩
  · have at_ : ∀ {i : Nat} {s : Sl}, (as ++ us)[i]? = some s → s ≠ .un → as[i]? = some s := fun {i s} e n => by
      by_cases hi : i < as.length
      · rwa [List.getElem?_append_left hi] at e
      · rw [List.getElem?_append_right (by omega), hus, List.getElem?_replicate] at e
        split at e
        · exact absurd (Option.some.inj e).symm n
        · cases e
    refine ⟨⟨b.sub, Sub.refl _, fun _ _ h => .inl h, fun _ _ h _ => h, fun a t => ⟨(b.tw a t).1, (b.tw a t).2, .inl t⟩, fun _ h => ⟨h, KdLe.refl _⟩⟩, ?_, fun i d e => ?_, fun i ds e => ?_, fun i kk e => ?_, fun i ns e => ?_, fun i j ds es a h1 _ _ _ => ?_, fun i φ e => ?_⟩
    case refine_7 =>
      obtain ⟨v, hv, ha⟩ := paired_get pr (at_ e (by intro z; cases z))
      obtain ⟨a0, a1⟩ := ha.lnAt
      exact ⟨⟨v, start_get hv, a1 _⟩, fun x hx => absurd hx (by rw [a0]; simp)⟩
    · rw [List.length_append, start_len, hus, List.length_replicate, hvl, hl]
    · obtain ⟨v, hv, ha⟩ := paired_get pr (at_ e (by intro z; cases z))
      cases ha with
      | va h => exact ⟨v, start_get hv, h⟩
    · obtain ⟨v, hv, ha⟩ := paired_get pr (at_ e (by intro z; cases z))
      cases ha
    · obtain ⟨v, hv, ha⟩ := paired_get pr (at_ e (by intro z; cases z))
      cases ha with
      | ty h e => exact ⟨_, h, e, start_get hv⟩
    · obtain ⟨v, hv, ha⟩ := paired_get pr (at_ e (by intro z; cases z))
      cases ha with
      | sc h => exact ⟨_, start_get hv, h⟩
    · obtain ⟨v, hv, ha⟩ := paired_get pr (at_ h1 (by intro z; cases z))
      cases ha
  · refine ⟨fun _ _ _ _ _ _ z => z.elim, fun _ _ _ _ _ _ _ z => z.elim, fun _ _ _ _ _ _ z => z.elim, fun _ _ _ _ _ _ z => z.elim, fun T' a d H' F' g r n p => ?_, fun _ _ _ _ _ _ _ _ _ z => z.elim⟩
    exact q a d H' F' ⟨g.sub, g.f0, g.new, g.keep, fun a t => Tws.le_ok (g.tw a (g.mt a t).1).2.1 (g.mt a t).2⟩ r n p
end Ab
namespace Ab
open PySem PySem.Spec PyProof.Rows L2
section
variable {X : Cx} {e a b c : Expr} {es : List Expr} {pos p : Pos} {α β γ : AEx} {x : Str} {n : Nat}
/-- o[i], by values, a list -/
def rGetL (K : KW) : V → V → Hp → VK → Prop := fun x y H Q => ∃ p xs i v, x = .ref p ∧ y = .int i ∧ SqL K H p xs ∧ atI xs i = some v ∧ Q v H
theorem pget_list : PGet X (rGetL (kw X)) := by
  intro pins s σ H x y v u Q I rx ry h
  obtain ⟨p, xs, i, z, rfl, rfl, hq, he, q⟩ := h
  cases rx
  obtain ⟨t, rfl⟩ := ry
  obtain ⟨its, r, pl, hz⟩ := I.list hq
  obtain ⟨j, h1, h2, h3, h4, h5⟩ := atI_get he
  obtain ⟨w, ew, rw'⟩ := r.get h2
  have hl := r.length
  have hn := line63
  have fin : EP X pins σ Q w s := ⟨z, H, I, rw', q⟩
  by_cases h0 : 0 ≤ i
  · have hj : i.toNat = j := by
      rw [seqIndex_of h0 h5] at h1
      exact Option.some.inj h1
    exact wpAny_getItem_list pl.isList h0 (by omega) (by rw [hj]; simpa using ew) fin
  · have hj : (i + (its.toArray.size : Int)).toNat = j := by
      rw [seqIndex_neg (by omega) h4] at h1
      rw [List.size_toArray, ← hl]
      exact Option.some.inj h1
    exact wpAny_getItem_list_neg pl.isList (by omega) (by rw [List.size_toArray] <;> omega) (by omega) (by rw [hj]; simpa using ew) fin
end
end Ab
namespace Ab
open PySem PySem.Spec PyProof.Rows L2
section
variable {X : Cx} {e a b c : Expr} {es : List Expr} {pos p : Pos} {α β γ : AEx} {τ υ : ATx} {x : Str} {n : Nat}
theorem j_neg (ha : JE X a α) : JE X (.UnaryOp .USub a pos) (fun env P => α env fun x => ∃ i, x = .int i ∧ P (.int (-i))) := by
  obtain ⟨t, h1, h2⟩ := ha.ex
  refine ⟨_, pe_un un_neg h1, fun B F0 M T env σ H F R0 P p Q q => h2 B F0 M T env σ H F R0 _ p _ fun v d H1 F1 s1 d1 p1 => ?_⟩
  obtain ⟨i, rfl, p1⟩ := p1
  cases d1
  exact ⟨i, rfl, q _ _ H1 F1 s1 (.int _) p1⟩
theorem j_mulW (ha : JE X a α) (hb : JE X b β) : JE X (.BinOp a .Mult b pos) (aB (dIC IntMulOk fun i j => .int (i * j)) α β) := j_op (opI fun _ _ _ _ _ _ _ hc q => mul_int q hc) sr_intC ha hb
theorem tw_step {K : KW} {T : Tws K} {H F : Hp} {a : Addr} (b : Bs T H F) (t : T a) (kt : T.kd a = none) (p : Nat) (q : Int) : Stp T H F (upd H a (.lst [.int (p : Int), .int q])) F := by
  refine ⟨fun c o e => ?_, Sub.refl F, fun _ _ e => .inl e, fun c o e nt => ?_, fun c tc => ?_⟩
  · have : c ≠ a := fun z => by rw [z, (b.tw a t).1] at e; cases e
    rw [upd_ne this]; exact b.sub c o e
  · have : c ≠ a := fun z => nt (z ▸ t)
    rw [upd_ne this]; exact e
  · by_cases z : c = a
    · subst z; exact Tws.of_town ⟨p, q, upd_same⟩ kt
    · obtain ⟨x, y, w⟩ := Tws.town (b.tw a t).2 kt
      exact Tws.mono (b.tw c tc).2 z (.inr (by rw [w]; trivial))
/-- town[0], town[1] -/
def aTw0 (i : Nat) : AEx := fun env P => env[i]? = some .tw ∧ ∀ p : Nat, P (.int (p : Int))
def aTw1 (i : Nat) : AEx := fun env P => env[i]? = some .tw ∧ ∀ q : Int, P (.int q)
theorem j_tw0 (i : Nat) {px ps : Pos} {j : Nat} (hN : X.N[i]? = some x := by rfl) (hv : Vis X.env.scope x := by first | exact Or.inl rfl | exact Or.inr (Or.inl rfl) | exact Or.inr (Or.inr rfl)) (hd : (x == ("__debug__" : Str)) = false := by decide)
    (hcd : (x == ("__classdict__" : Str)) = false := by decide) (hs : PlainIx (.Constant (.int 0) j ps) := by intro _ _; rfl) : JE X (.Subscript (.Name x px) (.Constant (.int 0) j ps) pos) (aTw0 i) :=
  ⟨_, pe_ix ix_list (pe_var hN hv hd hcd) pe_int hs, fun B F0 M T env σ H F R0 P p Q q => by
    obtain ⟨a, t, kt, e1⟩ := R0.ti i _ p.1
    obtain ⟨x, y, z⟩ := Tws.town (R0.toGd.tw a t).2.1 kt
    exact ⟨_, e1, a, _, 0, .int (x : Int), rfl, rfl, .inl (.inl z), rfl, q _ _ H F (.refl R0.bs) (.int _) (p.2 x)⟩⟩
theorem j_tw1 (i : Nat) {px ps : Pos} {j : Nat} (hN : X.N[i]? = some x := by rfl) (hv : Vis X.env.scope x := by first | exact Or.inl rfl | exact Or.inr (Or.inl rfl) | exact Or.inr (Or.inr rfl)) (hd : (x == ("__debug__" : Str)) = false := by decide)
    (hcd : (x == ("__classdict__" : Str)) = false := by decide) (hs : PlainIx (.Constant (.int 1) j ps) := by intro _ _; rfl) : JE X (.Subscript (.Name x px) (.Constant (.int 1) j ps) pos) (aTw1 i) :=
  ⟨_, pe_ix ix_list (pe_var hN hv hd hcd) pe_int hs, fun B F0 M T env σ H F R0 P p Q q => by
    obtain ⟨a, t, kt, e1⟩ := R0.ti i _ p.1
    obtain ⟨x, y, z⟩ := Tws.town (R0.toGd.tw a t).2.1 kt
    exact ⟨_, e1, a, _, 1, .int y, rfl, rfl, .inl (.inl z), rfl, q _ _ H F (.refl R0.bs) (.int _) (p.2 y)⟩⟩
/-- town[1] = e -/
def aSetTw1 (i : Nat) (α : AEx) : ASx := fun A env => env[i]? = some .tw ∧ α env fun d => ∃ n, d = .int n ∧ A.nx env
theorem js_setTw1 (i : Nat) {px ps : Pos} {j : Nat} (he : JE X e α) (hN : X.N[i]? = some x := by rfl) (hv : Vis X.env.scope x := by first | exact Or.inl rfl | exact Or.inr (Or.inl rfl) | exact Or.inr (Or.inr rfl)) (hd : (x == ("__debug__" : Str)) = false := by decide)
    (hcd : (x == ("__classdict__" : Str)) = false := by decide) (ha : ∀ v, assign (.Subscript (.Name x px) (.Constant (.int 1) j ps) p) X.env v = (do
      let ov ← holding [v] (eval (.Name x px) X.env)
      let iv ← holding [v, ov] (eval (.Constant (.int 1) j ps) X.env)
      standAt p
      holding [v, ov, iv] (setItem ov iv v)
      release [v, ov, iv] []) := by intro _; rfl) (hs : swapsWithSole [.Subscript (.Name x px) (.Constant (.int 1) j ps) p] e pos.line X.env = pure false := by rfl) (hw : swappedStores [.Subscript (.Name x px) (.Constant (.int 1) j ps) p] e X.env = pure none := by rfl)
    (h1 : (assignEach [.Subscript (.Name x px) (.Constant (.int 1) j ps) p] X.env).map (·.2) = [assign (.Subscript (.Name x px) (.Constant (.int 1) j ps) p) X.env] := by rfl) : JS X (.Assign [.Subscript (.Name x px) (.Constant (.int 1) j ps) p] e pos) (aSetTw1 i α) := by
  obtain ⟨t, g1, g2⟩ := he.ex
  refine ⟨_, ps_asg g1 (pg_sub (pe_var hN hv hd hcd) pe_int set_list ha) hs hw h1, fun B F0 M T env σ H F R0 A D l p => g2 B F0 M T env σ H F R0 _ p.2 _ fun v d H1 F1 s1 d1 p1 => ?_⟩
  obtain ⟨n, rfl, p1⟩ := p1
  cases d1
  obtain ⟨a, t, kt, e1⟩ := R0.ti i _ p.1
  have R1 := R0.step s1
  obtain ⟨x, y, z⟩ := Tws.town (R1.toGd.tw a t).2.1 kt
  exact ⟨_, e1, a, _, 1, 1, rfl, rfl, z, rfl, l.nx T env σ _ F1 (R1.step (tw_step R1.bs t kt x n)) p1⟩
/-- town[0] += 1 -/
def aAugTw0 (i : Nat) : ASx := fun A env => env[i]? = some .tw ∧ A.nx env
theorem js_augTw0 (i : Nat) {px ps pc : Pos} {j j' : Nat} (hN : X.N[i]? = some x := by rfl) (hv : Vis X.env.scope x := by first | exact Or.inl rfl | exact Or.inr (Or.inl rfl) | exact Or.inr (Or.inr rfl)) (hd : (x == ("__debug__" : Str)) = false := by decide)
    (hcd : (x == ("__classdict__" : Str)) = false := by decide) (ha : ∀ ov iv new, augStore (.Constant (.int 0) j ps) ov iv new = (do holding [new, ov, iv] (setItem ov iv new); release [new, ov, iv] []; pure .next) := by intros; rfl) :
    JS X (.AugAssign (.Subscript (.Name x px) (.Constant (.int 0) j ps) p) .Add (.Constant (.int 1) j' pc) pos) (aAugTw0 i) := by
  refine ⟨_, ps_augS (pe_var hN hv hd hcd) pe_int pget_list pe_int ip_add set_list ha, fun B F0 M T env σ H F R0 A D l p => ?_⟩
  obtain ⟨a, t, kt, e1⟩ := R0.ti i _ p.1
  obtain ⟨x, y, z⟩ := Tws.town (R0.toGd.tw a t).2.1 kt
  exact ⟨_, e1, a, _, 0, .int (x : Int), rfl, rfl, .inl (.inl z), rfl, (x : Int), 1, rfl, rfl, a, _, 0, 0, rfl, rfl, z, rfl, l.nx T env σ _ F (R0.step (tw_step R0.bs t kt (x + 1) y)) p.2⟩
def aScLen (i : Nat) : AEx := fun env P => ∃ ns, env[i]? = some (.sc ns) ∧ P (.int (ns.length : Int))
theorem j_scLen (i : Nat) {y : Str} {px : Pos} (hm : X.mg y = none) (hv' : bootBuiltins y = some (.builtin "len")) (hg : Gl X y := by rfl) (hN : X.N[i]? = some x := by rfl) (hv : Vis X.env.scope x := by first | exact Or.inl rfl | exact Or.inr (Or.inl rfl) | exact Or.inr (Or.inr rfl)) (hd : (x == ("__debug__" : Str)) = false := by decide)
    (hcd : (x == ("__classdict__" : Str)) = false := by decide) (hn : y ≠ "__name__" := by decide) (hdb : (y == ("__debug__" : Str)) = false := by decide)
    (he : starEach [.Name x px] X.env = (false, eval (.Name x px) X.env) :: starEach [] X.env := by rfl) (hpl : (backTo pos (starEach [] X.env)).any (·.1) = false := by rfl) : JE X (.Call (.Name y p) [.Name x px] [] pos) (aScLen i) := by
  refine ⟨_, pe_callB call_len_seq hg hm hv' (pa_cons (pe_var hN hv hd hcd) pa_nil he) hn hdb he hpl, fun B F0 M T env σ H F R0 P p Q q => ?_⟩
  obtain ⟨ns, p1, p2⟩ := p
  obtain ⟨a, e1, e2⟩ := R0.sc i ns p1
  exact ⟨_, e1, a, _, rfl, .inl (R0.sub.seqL e2), by rw [List.length_map]; exact q _ _ H F (.refl R0.bs) (.int _) p2⟩
def aScIx (i : Nat) (β : AEx) : AEx := fun env P => ∃ ns, env[i]? = some (.sc ns) ∧ β env fun y => ∃ k m, y = .int k ∧ atI ns k = some m ∧ P (.int m)
theorem atI_map {α β : Type} {f : α → β} {xs : List α} {k : Int} {m : α} (h : atI xs k = some m) : atI (xs.map f) k = some (f m) := by
  unfold atI at h ⊢
  rw [List.length_map]
  cases e : ixN xs.length k with
  | none => rw [e] at h; cases h
  | some j =>
    rw [e] at h
    show (xs.map f)[j]? = _
    rw [List.getElem?_map, show xs[j]? = some m from h]
    rfl
theorem j_scIx (i : Nat) {px : Pos} (hb : JE X b β) (hN : X.N[i]? = some x := by rfl) (hv : Vis X.env.scope x := by first | exact Or.inl rfl | exact Or.inr (Or.inl rfl) | exact Or.inr (Or.inr rfl)) (hd : (x == ("__debug__" : Str)) = false := by decide)
    (hcd : (x == ("__classdict__" : Str)) = false := by decide) (hs : PlainIx b := by intro _ _; rfl) : JE X (.Subscript (.Name x px) b pos) (aScIx i β) := by
  obtain ⟨t, h1, h2⟩ := hb.ex
  refine ⟨_, pe_ix ix_list (pe_var hN hv hd hcd) h1 hs, fun B F0 M T env σ H F R0 P p Q q => ?_⟩
  obtain ⟨ns, p1, p2⟩ := p
  obtain ⟨a, e1, e2⟩ := R0.sc i ns p1
  refine ⟨_, e1, h2 B F0 M T env σ H F R0 _ p2 _ fun v d H1 F1 s1 d1 p3 => ?_⟩
  obtain ⟨k, m, rfl, p4, p5⟩ := p3
  cases d1
  exact ⟨a, _, k, .int m, rfl, rfl, (R0.step s1).sub.seqL (s1.ext.seqL e2), atI_map p4, q _ _ H1 F1 s1 (.int _) p5⟩
/-- script == [] -/
def aScNil (i : Nat) : ATx := fun env P => ∃ ns, env[i]? = some (.sc ns) ∧ P (decide (ns = []))
theorem ints_lay : ∀ ns : List Int, PyData.canLayAll0 (ns.map PyData.int) = true ∧ PyData.depthAll (ns.map PyData.int) = 0
  | [] => ⟨by simp [PyData.canLayAll0], by simp [PyData.depthAll]⟩
  | n :: ns => ⟨by simp [PyData.canLayAll0, PyData.canLay0, (ints_lay ns).1], by simp [PyData.depthAll, PyData.depth, (ints_lay ns).2]⟩
theorem shaped_ints {ns : List Int} : SeqAt.shaped (.list (ns.map PyData.int)) = true := by
  unfold SeqAt.shaped
  simp [PyData.canLay0, PyData.depth, (ints_lay ns).1, (ints_lay ns).2]
theorem jt_scNil (i : Nat) {px : Pos} {p1 : Pos} (hu : X.A.units + 64 < cLine) (hN : X.N[i]? = some x := by rfl) (hv : Vis X.env.scope x := by first | exact Or.inl rfl | exact Or.inr (Or.inl rfl) | exact Or.inr (Or.inr rfl)) (hd : (x == ("__debug__" : Str)) = false := by decide)
    (hcd : (x == ("__classdict__" : Str)) = false := by decide) : JT X (.Compare (.Name x px) [.Eq] [.List [] p1] pos) (aScNil i) := by
  refine ⟨_, pt_cmpR (op_eqD hu) (pe_var hN hv hd hcd) (pe_lst pa_nil) (nomark _), fun B F0 M T env σ H F R0 P p Q q => ?_⟩
  obtain ⟨ns, p1, p3⟩ := p
  obtain ⟨a, e1, e2⟩ := R0.sc i ns p1
  refine ⟨_, e1, Nat.zero_le _, fun l hl => ?_⟩
  have st : Stp T H F (upd H l (.lst [])) F := .al0 R0.bs hl
  have dp : ∀ ns : List Int, DpAll (kw X) (upd H l (.lst [])) (ns.map V.int) (ns.map PyData.int) := fun ns => RpAll.dp (K := kw X) _ (ints_lay ns).1 (of_ints ns)
  refine ⟨.list (ns.map PyData.int), .list [], .lst (st.sub.seqL e2) (dp ns), .lst (.inl (.inl upd_same)) .nil, shaped_ints, rfl, _, rfl, ?_⟩
  have e : PyData.eqv (.list (ns.map PyData.int)) (.list []) = decide (ns = []) := by
    cases ns <;> rfl
  rw [e]
  exact q _ _ F st p3
end
end Ab
namespace Ab
open PySem PySem.Spec PyProof.Rows L2
/-- data that == can be asked of: how deep -/
def Sh (n : Nat) (d : DD) : Prop := d.canLay0 = true ∧ d.depth ≤ n
theorem Sh.ok {n : Nat} {d : DD} (h : Sh n d) (hn : n ≤ 64 := by decide) : SeqAt.shaped d = true := by
  unfold SeqAt.shaped
  rw [h.1, decide_eq_true (Nat.le_trans h.2 hn)]
  rfl
theorem Sh.mono {n m : Nat} {d : DD} (h : Sh n d) (hn : n ≤ m) : Sh m d := ⟨h.1, Nat.le_trans h.2 hn⟩
theorem sh_all {n : Nat} : ∀ {xs : List DD}, (∀ x ∈ xs, Sh n x) → PyData.canLayAll0 xs = true ∧ PyData.depthAll xs ≤ n
  | [], _ => ⟨by simp [PyData.canLayAll0], by simp [PyData.depthAll]⟩
  | x :: xs, h => by
    obtain ⟨a, b⟩ := h x List.mem_cons_self
    obtain ⟨c, d⟩ := sh_all (xs := xs) fun y hy => h y (List.mem_cons_of_mem _ hy)
    exact ⟨by simp [PyData.canLayAll0, a, c], by simp only [PyData.depthAll]; omega⟩
theorem Sh.list {n : Nat} {xs : List DD} (h : ∀ x ∈ xs, Sh n x) : Sh (n + 1) (.list xs) := by
  obtain ⟨a, b⟩ := sh_all h
  exact ⟨by simp only [PyData.canLay0]; exact a, by simp only [PyData.depth]; omega⟩
theorem Sh.tup {n : Nat} {xs : List DD} (h : ∀ x ∈ xs, Sh n x) : Sh (n + 1) (.tuple xs) := by
  obtain ⟨a, b⟩ := sh_all h
  exact ⟨by simp only [PyData.canLay0]; exact a, by simp only [PyData.depth]; omega⟩
theorem Sh.int {n : Nat} {i : Int} : Sh n (.int i) := ⟨by simp only [PyData.canLay0], by simp [PyData.depth]⟩
theorem Sh.non {n : Nat} : Sh n .none := ⟨by simp only [PyData.canLay0], by simp [PyData.depth]⟩
theorem Sh.bool {n : Nat} {b : Bool} : Sh n (.bool b) := ⟨by simp only [PyData.canLay0], by simp [PyData.depth]⟩
theorem Sh.str {n : Nat} {x : Str} (h : PyData.strOk x = true := by decide +kernel) : Sh n (.str x) := ⟨by simp only [PyData.canLay0]; exact h, by simp [PyData.depth]⟩
theorem Sh.nil {n : Nat} : ∀ x ∈ ([] : List DD), Sh n x := fun x h => by cases h
theorem Sh.cons {n : Nat} {d : DD} {ds : List DD} (h : Sh n d) (g : ∀ x ∈ ds, Sh n x) : ∀ x ∈ d :: ds, Sh n x := fun x hx => by
  rcases List.mem_cons.mp hx with rfl | hx
  · exact h
  · exact g x hx
theorem Sh.map {α : Type} {n : Nat} {f : α → DD} {xs : List α} (h : ∀ x ∈ xs, Sh n (f x)) : ∀ x ∈ xs.map f, Sh n x := fun x hx => by
  obtain ⟨y, hy, rfl⟩ := List.mem_map.mp hx
  exact h y hy
theorem shi {i : Int} : SeqAt.shaped (.int i) = true := (Sh.int (n := 0)).ok
theorem shn : SeqAt.shaped .none = true := (Sh.non (n := 0)).ok
/-- equal data -/
theorem eqv_same {d : DD} {n : Nat} (h : Sh n d) : PyData.eqv d d = true := SeqAt.eqv_refl d h.1
theorem eqv_int {i j : Int} : PyData.eqv (.int i) (.int j) = decide (i = j) := by
  show (i == j) = _
  rw [Bool.beq_eq_decide_eq]
theorem eqv_str {i j : Str} : PyData.eqv (.str i) (.str j) = decide (i = j) := by
  show (i == j) = _
  rw [Bool.beq_eq_decide_eq]
end Ab
namespace Lr
open PySem Ab
inductive Rule where
  | asked (n : Int) | clock (a b : Int) | due (n : Int) | empty (n : Int) | gap (i m : Int) | longer (n : Int)
  deriving DecidableEq
def Rule.d : Rule → DD
  | .asked n => .tuple [.str "asked", .int n]
  | .clock a b => .tuple [.str "clock", .int a, .int b]
  | .due n => .tuple [.str "due", .int n]
  | .empty n => .tuple [.str "empty", .int n]
  | .gap i m => .tuple [.str "gap", .int i, .int m]
  | .longer n => .tuple [.str "longer", .int n]
def N4 (n : Int) : Prop := 1 ≤ n ∧ n ≤ 4
def Rule.ok : Rule → Prop
  | .asked n => N4 n
  | .clock a b => N4 a ∧ N4 b
  | .due n => N4 n
  | .empty n => N4 n
  | .gap i m => N4 i ∧ N4 m
  | .longer n => N4 n
def crD (room pause : Int) : DD := .tuple [.int room, .int pause]
def CrOk (room pause : Int) : Prop := (1 ≤ room ∧ room ≤ 3) ∧ 0 ≤ pause ∧ pause ≤ 2
def lnD (a b : Int) : DD := .tuple [.int a, .int b]
/-- the line of a road -/
def ln (road a b : Int) : Int := if road = 0 then a else b
def changes : Rule → Int → Int → Int → Int → Int → Int → Bool
  | .clock x y, road, age, _, _, _, _ => decide (ln road x y ≤ age)
  | .asked n, road, age, _, _, a, b => decide (n ≤ age) && decide (0 < ln (1 - road) a b)
  | .empty n, road, age, _, _, a, b => decide (0 < ln (1 - road) a b) && (decide (ln road a b = 0) || decide (n ≤ age))
  | .longer n, road, age, _, _, a, b => decide (n ≤ age) && decide (ln road a b < ln (1 - road) a b)
  | .gap i m, road, age, rest, _, a, b => decide (0 < ln (1 - road) a b) && (decide (i ≤ rest) || decide (m ≤ age))
  | .due n, _, _, _, wait, _, _ => decide (n ≤ wait)
structure Sta where
  road : Int
  left : Int
  age : Int
  rest : Int
  wait : Int
  a : Int
  b : Int
  deriving DecidableEq
def Sta.d (s : Sta) : DD := .tuple [.int s.road, .int s.left, .int s.age, .int s.rest, .int s.wait, lnD s.a s.b]
def sta0 : Sta := ⟨0, 0, 0, 0, 0, 0, 0⟩
/-- a light as a datum: 2 for none -/
inductive Lt where
  | r (road : Int) | dark
  deriving DecidableEq
def Lt.d : Lt → DD
  | .r i => .int i
  | .dark => .none
def bit0 (c : Int) : Int := c % 2
def bit1 (c : Int) : Int := c / 2
structure Res where
  s : Sta
  light : Lt
  passed : Int
  lost : Int
/-- one tick -/
def tick (room pause : Int) (rule : Rule) (s : Sta) (c : Int) : Res :=
  let a1 := min room (s.a + bit0 c)
  let b1 := min room (s.b + bit1 c)
  let lost := (s.a + bit0 c) + (s.b + bit1 c) - (a1 + b1)
  let ch := decide (s.left = 0) && changes rule s.road s.age s.rest s.wait a1 b1
  let road := if ch then 1 - s.road else s.road
  let left0 := if ch then pause + 1 else s.left
  let age := if ch then 0 else s.age
  let rest := if ch then 0 else s.rest
  let wait := if ch then 0 else s.wait
  let left := max 0 (left0 - 1)
  let light := if left = 0 then Lt.r road else Lt.dark
  let passed := if left = 0 ∧ ln road a1 b1 ≠ 0 then 1 else 0
  let a2 := if left = 0 ∧ road = 0 then a1 - passed else a1
  let b2 := if left = 0 ∧ road ≠ 0 then b1 - passed else b1
  let age' := if left = 0 then age + 1 else age
  let rest' := if left = 0 then (if passed > 0 then 0 else rest + 1) else rest
  let wait' := if ln (1 - road) a2 b2 > 0 then wait + 1 else 0
  ⟨⟨road, left, age', rest', wait', a2, b2⟩, light, passed, lost⟩
def StaOk (room : Int) (s : Sta) : Prop := (s.road = 0 ∨ s.road = 1) ∧ 0 ≤ s.left ∧ (0 ≤ s.a ∧ s.a ≤ room) ∧ (0 ≤ s.b ∧ s.b ≤ room)
def ComOk (c : Int) : Prop := 0 ≤ c ∧ c ≤ 3
def W_join : Wt := fun as P => ∃ room a b c, as = [.va (.int room), .va (lnD a b), .va (.int c)] ∧ ComOk c ∧
  P (.tuple [lnD (min room (a + bit0 c)) (min room (b + bit1 c)), .int ((a + bit0 c) + (b + bit1 c) - (min room (a + bit0 c) + min room (b + bit1 c)))])
def W_leave : Wt := fun as P => ∃ (a b : Int) (l : Lt), as = [.va (lnD a b), .va l.d] ∧ (∀ r, l = .r r → r = 0 ∨ r = 1) ∧
  P (match l with
    | .dark => .tuple [lnD a b, .int 0]
    | .r r => if ln r a b = 0 then .tuple [lnD a b, .int 0] else if r = 0 then .tuple [lnD (a - 1) b, .int 1] else .tuple [lnD a (b - 1), .int 1])
def W_changes : Wt := fun as P => ∃ (rule : Rule) (road age rest wait a b : Int), as = [.va rule.d, .va (.int road), .va (.int age), .va (.int rest), .va (.int wait), .va (lnD a b)] ∧ (road = 0 ∨ road = 1) ∧ P (.bool (changes rule road age rest wait a b))
def W_first : Wt := fun as P => as = [] ∧ P sta0.d
def Res.d (r : Res) : DD := .tuple [r.s.d, r.light.d, .int r.passed, .int r.lost]
def W_tick : Wt := fun as P => ∃ room pause rule s c, as = [.va (crD room pause), .va (Rule.d rule), .va (Sta.d s), .va (.int c)] ∧ CrOk room pause ∧ StaOk room s ∧ ComOk c ∧ P (tick room pause rule s c).d
end Lr
namespace Ab
open PySem PySem.Spec PyProof.Rows L2
section
variable {α : Type} {a b c d e f g h : α} {xs : List α}
theorem at0 : atI (a :: xs) 0 = some a := by
  unfold atI ixN
  rw [if_pos (by decide), if_pos (by rw [List.length_cons]; omega)]; rfl
theorem at1 : atI (a :: b :: xs) 1 = some b := by
  unfold atI ixN
  rw [if_pos (by decide), if_pos (by rw [List.length_cons, List.length_cons]; omega)]; rfl
theorem at2 : atI (a :: b :: c :: xs) 2 = some c := by
  unfold atI ixN
  rw [if_pos (by decide), if_pos (by rw [List.length_cons, List.length_cons, List.length_cons]; omega)]; rfl
theorem at3 : atI (a :: b :: c :: d :: xs) 3 = some d := by
  unfold atI ixN
  rw [if_pos (by decide), if_pos (by rw [List.length_cons, List.length_cons, List.length_cons, List.length_cons]; omega)]; rfl
theorem ix0 {n : Nat} : ixN (n + 1) 0 = some 0 := by
  unfold ixN
  rw [if_pos (by decide), if_pos (by omega)]; rfl
theorem ix1 {n : Nat} : ixN (n + 2) 1 = some 1 := by
  unfold ixN
  rw [if_pos (by decide), if_pos (by omega)]; rfl
end
section
variable {env : AE} {P : DD → Prop} {Pb : Bool → Prop} {PL : List DD → Prop} {A : AEnds} {α β γ : AEx} {τ υ : ATx} {δ : AOx} {s u : ASx}
theorem ex_int {i : Int} {Q : Int → Prop} : (∃ j, PyData.int i = PyData.int j ∧ Q j) ↔ Q i := ⟨fun ⟨j, e, q⟩ => by cases e; exact q, fun q => ⟨i, rfl, q⟩⟩
theorem ex_bool {i : Bool} {Q : Bool → Prop} : (∃ j, PyData.bool i = PyData.bool j ∧ Q j) ↔ Q i := ⟨fun ⟨j, e, q⟩ => by cases e; exact q, fun q => ⟨i, rfl, q⟩⟩
theorem dI_i {g : Int → Int → DD} {i j : Int} : dI g (.int i) (.int j) P ↔ P (g i j) := ⟨fun ⟨a, b, e1, e2, q⟩ => by cases e1; cases e2; exact q, fun q => ⟨i, j, rfl, rfl, q⟩⟩
theorem dIC_i {C : Int → Int → Prop} {g : Int → Int → DD} {i j : Int} : dIC C g (.int i) (.int j) P ↔ C i j ∧ P (g i j) := ⟨fun ⟨a, b, e1, e2, q⟩ => by cases e1; cases e2; exact q, fun q => ⟨i, j, rfl, rfl, q⟩⟩
theorem dIx_t {ds : List DD} {i : Int} : dIx (.tuple ds) (.int i) P ↔ ∃ d, atI ds i = some d ∧ P d := ⟨fun ⟨a, b, d, e1, e2, q⟩ => by
  cases e2
  rcases e1 with e | e <;> cases e
  exact ⟨d, q⟩, fun ⟨d, q⟩ => ⟨ds, i, d, .inr rfl, rfl, q⟩⟩
theorem dIx_l {ds : List DD} {i : Int} : dIx (.list ds) (.int i) P ↔ ∃ d, atI ds i = some d ∧ P d := ⟨fun ⟨a, b, d, e1, e2, q⟩ => by
  cases e2
  rcases e1 with e | e <;> cases e
  exact ⟨d, q⟩, fun ⟨d, q⟩ => ⟨ds, i, d, .inl rfl, rfl, q⟩⟩
theorem ex_some {α : Type} {a : α} {Q : α → Prop} : (∃ d, some a = some d ∧ Q d) ↔ Q a := ⟨fun ⟨j, e, q⟩ => by cases e; exact q, fun q => ⟨a, rfl, q⟩⟩
theorem aV_eq {i : Nat} : aV i env P ↔ ∃ d, env[i]? = some (.va d) ∧ P d := Iff.rfl
theorem ex_va {d : DD} {Q : DD → Prop} : (∃ d', some (Sl.va d) = some (Sl.va d') ∧ Q d') ↔ Q d := ⟨fun ⟨j, e, q⟩ => by cases e; exact q, fun q => ⟨d, rfl, q⟩⟩
theorem ex_ow {d : List DD} {Q : List DD → Prop} : (∃ d', some (Sl.ow d) = some (Sl.ow d') ∧ Q d') ↔ Q d := ⟨fun ⟨j, e, q⟩ => by cases e; exact q, fun q => ⟨d, rfl, q⟩⟩
theorem ex_sc {d : List Int} {Q : List Int → Prop} : (∃ d', some (Sl.sc d) = some (Sl.sc d') ∧ Q d') ↔ Q d := ⟨fun ⟨j, e, q⟩ => by cases e; exact q, fun q => ⟨d, rfl, q⟩⟩
theorem ex_list {d : List DD} {Q : List DD → Prop} : (∃ d', PyData.list d = PyData.list d' ∧ Q d') ↔ Q d := ⟨fun ⟨j, e, q⟩ => by cases e; exact q, fun q => ⟨d, rfl, q⟩⟩
theorem ex_tuple {d : List DD} {Q : List DD → Prop} : (∃ d', PyData.tuple d = PyData.tuple d' ∧ Q d') ↔ Q d := ⟨fun ⟨j, e, q⟩ => by cases e; exact q, fun q => ⟨d, rfl, q⟩⟩
theorem dMin2_i {i j : Int} : dMin2 [.int i, .int j] P ↔ P (.int (if j < i then j else i)) := ⟨fun ⟨a, b, e1, q⟩ => by cases e1; exact q, fun q => ⟨i, j, rfl, q⟩⟩
theorem dMax2_i {i j : Int} : dMax2 [.int i, .int j] P ↔ P (.int (if j > i then j else i)) := ⟨fun ⟨a, b, e1, q⟩ => by cases e1; exact q, fun q => ⟨i, j, rfl, q⟩⟩
theorem dSumT_2 {i j : Int} : dSumT [.tuple [.int i, .int j]] P ↔ P (.int (i + j)) := ⟨fun ⟨a, e1, q⟩ => by
  match a, e1 with
  | [x, y], e1 =>
    cases e1
    have : ([i, j] : List Int).sum = i + j := by simp
    rw [this] at q
    exact q, fun q => ⟨[i, j], rfl, by
    have : ([i, j] : List Int).sum = i + j := by simp
    rw [this]
    exact q⟩⟩
theorem dLen_l {xs : List DD} : dLen [.list xs] P ↔ P (.int xs.length) := ⟨fun ⟨a, e1, q⟩ => by rcases e1 with e | e <;> cases e; exact q, fun q => ⟨xs, .inl rfl, q⟩⟩
theorem dLen_t {xs : List DD} : dLen [.tuple xs] P ↔ P (.int xs.length) := ⟨fun ⟨a, e1, q⟩ => by rcases e1 with e | e <;> cases e; exact q, fun q => ⟨xs, .inr rfl, q⟩⟩
theorem dEq_i {i j : Int} : dEq (.int i) (.int j) P ↔ P (.bool (decide (i = j))) := ⟨fun ⟨_, _, q⟩ => by rw [eqv_int] at q; exact q, fun q => ⟨shi, shi, by rw [eqv_int]; exact q⟩⟩
theorem dNe_i {i j : Int} : dNe (.int i) (.int j) P ↔ P (.bool (!decide (i = j))) := ⟨fun ⟨_, _, q⟩ => by rw [eqv_int] at q; exact q, fun q => ⟨shi, shi, by rw [eqv_int]; exact q⟩⟩
theorem dEq_s {i j : Str} (h1 : PyData.strOk i = true) (h2 : PyData.strOk j = true) : dEq (.str i) (.str j) P ↔ P (.bool (decide (i = j))) := ⟨fun ⟨_, _, q⟩ => by rw [eqv_str] at q; exact q, fun q => ⟨(Sh.str (n := 0) h1).ok, (Sh.str (n := 0) h2).ok, by rw [eqv_str]; exact q⟩⟩
theorem dEq_ni {j : Int} : dEq .none (.int j) P ↔ P (.bool false) := ⟨fun ⟨_, _, q⟩ => q, fun q => ⟨shn, shi, q⟩⟩
theorem dEq_in {j : Int} : dEq (.int j) .none P ↔ P (.bool false) := ⟨fun ⟨_, _, q⟩ => q, fun q => ⟨shi, shn, q⟩⟩
theorem dIs_i {j : Int} : dIs (.int j) .none P ↔ P (.bool false) := ⟨fun ⟨_, q⟩ => q, fun q => ⟨rfl, q⟩⟩
theorem dIs_n : dIs .none .none P ↔ P (.bool true) := ⟨fun ⟨_, q⟩ => q, fun q => ⟨rfl, q⟩⟩
theorem dIsn_i {j : Int} : dIsn (.int j) .none P ↔ P (.bool true) := ⟨fun ⟨_, q⟩ => q, fun q => ⟨rfl, q⟩⟩
theorem dIsn_n : dIsn .none .none P ↔ P (.bool false) := ⟨fun ⟨_, q⟩ => q, fun q => ⟨rfl, q⟩⟩
theorem dCat_l {xs ys : List DD} : dCat (.list xs) (.list ys) PL ↔ xs.length + ys.length ≤ lineD ∧ PL (xs ++ ys) := ⟨fun ⟨a, b, e1, e2, q⟩ => by cases e1; cases e2; exact q, fun q => ⟨xs, ys, rfl, rfl, q⟩⟩
theorem dCatT_t {xs ys : List DD} : dCatT (.tuple xs) (.tuple ys) P ↔ xs.length + ys.length ≤ lineD ∧ P (.tuple (xs ++ ys)) := ⟨fun ⟨a, b, e1, e2, q⟩ => by cases e1; cases e2; exact q, fun q => ⟨xs, ys, rfl, rfl, q⟩⟩
theorem dListO_l {xs : List DD} : dListO [.list xs] PL ↔ PL xs := ⟨fun ⟨a, e1, q⟩ => by rcases e1 with e | e <;> cases e; exact q, fun q => ⟨xs, .inl rfl, q⟩⟩
theorem dListO_t {xs : List DD} : dListO [.tuple xs] PL ↔ PL xs := ⟨fun ⟨a, e1, q⟩ => by rcases e1 with e | e <;> cases e; exact q, fun q => ⟨xs, .inr rfl, q⟩⟩
theorem dTupleO_l {xs : List DD} : dTupleO [.list xs] P ↔ P (.tuple xs) := ⟨fun ⟨a, e1, q⟩ => by rcases e1 with e | e <;> cases e; exact q, fun q => ⟨xs, .inl rfl, q⟩⟩
theorem dTupleO_t {xs : List DD} : dTupleO [.tuple xs] P ↔ P (.tuple xs) := ⟨fun ⟨a, e1, q⟩ => by rcases e1 with e | e <;> cases e; exact q, fun q => ⟨xs, .inr rfl, q⟩⟩
theorem tgs2 {g : DD → AE → (AE → Prop) → Prop} {hs : List DD → AE → (AE → Prop) → Prop} {d : DD} {r : List DD} {Q : AE → Prop} : tgsCons g hs (d :: r) env Q ↔ g d env fun env' => hs r env' Q := ⟨fun ⟨a, b, e1, q⟩ => by cases e1; exact q, fun q => ⟨d, r, rfl, q⟩⟩
theorem tgs0 {Q : AE → Prop} : tgsNil [] env Q ↔ Q env := ⟨fun ⟨_, q⟩ => q, fun q => ⟨rfl, q⟩⟩
theorem tgt {n : Nat} {hs : List DD → AE → (AE → Prop) → Prop} {ds : List DD} {Q : AE → Prop} : tgTup n hs (.tuple ds) env Q ↔ ds.length = n ∧ hs ds env Q := ⟨fun ⟨a, e1, q⟩ => by cases e1; exact q, fun q => ⟨ds, rfl, q⟩⟩
theorem ite_t {p q : Prop} : ((true = true → p) ∧ (true = false → q)) ↔ p := ⟨fun h => h.1 rfl, fun h => And.intro (fun _ => h) (fun e => absurd e (by decide))⟩
theorem ite_f {p q : Prop} : ((false = true → p) ∧ (false = false → q)) ↔ q := ⟨fun h => h.2 rfl, fun h => And.intro (fun e => absurd e (by decide)) (fun _ => h)⟩
theorem ln0 : (0 ≤ lineD) ↔ True := iff_true_intro (by decide)
theorem ln1 : (0 + 1 ≤ lineD) ↔ True := iff_true_intro (by decide)
theorem ln2 : (0 + 1 + 1 ≤ lineD) ↔ True := iff_true_intro (by decide)
theorem ln3 : (0 + 1 + 1 + 1 ≤ lineD) ↔ True := iff_true_intro (by decide)
theorem ln4 : (0 + 1 + 1 + 1 + 1 ≤ lineD) ↔ True := iff_true_intro (by decide)
theorem ln5 : (0 + 1 + 1 + 1 + 1 + 1 ≤ lineD) ↔ True := iff_true_intro (by decide)
theorem ln6 : (0 + 1 + 1 + 1 + 1 + 1 + 1 ≤ lineD) ↔ True := iff_true_intro (by decide)
theorem ex_vaint {i : Int} {Q : Int → Prop} : (∃ m, some (Sl.va (.int i)) = some (Sl.va (.int m)) ∧ Q m) ↔ Q i := ⟨fun ⟨_, e, q⟩ => by cases e; exact q, fun q => ⟨i, rfl, q⟩⟩
theorem ex_l1i {i : Int} {Q : Int → Prop} : (∃ n, [PyData.int i] = [PyData.int n] ∧ Q n) ↔ Q i := ⟨fun ⟨_, e, q⟩ => by cases e; exact q, fun q => ⟨i, rfl, q⟩⟩
theorem ex_l1l {xs : List DD} {Q : List DD → Prop} : (∃ n, [PyData.list xs] = [PyData.list n] ∧ Q n) ↔ Q xs := ⟨fun ⟨_, e, q⟩ => by cases e; exact q, fun q => ⟨xs, rfl, q⟩⟩
theorem ex_l2l {xs ys : List DD} {Q : List DD → List DD → Prop} : (∃ n m, [PyData.list xs, PyData.list ys] = [PyData.list n, PyData.list m] ∧ Q n m) ↔ Q xs ys := ⟨fun ⟨_, _, e, q⟩ => by cases e; exact q, fun q => ⟨xs, ys, rfl, q⟩⟩
theorem cut2_1 {a b : DD} : cutD [a, b] none (some 1) = [a] := rfl
theorem cut2_2 {a b : DD} : cutD [a, b] none (some 2) = [a, b] := rfl
theorem ex_l1 {α : Type} {a : α} {Q : α → Prop} : (∃ d, [a] = [d] ∧ Q d) ↔ Q a := ⟨fun ⟨_, e, q⟩ => by cases e; exact q, fun q => ⟨a, rfl, q⟩⟩
theorem ex_l2 {α : Type} {a b : α} {Q : α → α → Prop} : (∃ d e, [a, b] = [d, e] ∧ Q d e) ↔ Q a b := ⟨fun ⟨_, _, e, q⟩ => by cases e; exact q, fun q => ⟨a, b, rfl, q⟩⟩
theorem ex_l3 {α : Type} {a b c : α} {Q : α → α → α → Prop} : (∃ d e f, [a, b, c] = [d, e, f] ∧ Q d e f) ↔ Q a b c := ⟨fun ⟨_, _, _, e, q⟩ => by cases e; exact q, fun q => ⟨a, b, c, rfl, q⟩⟩
theorem lineLe {n : Nat} (h : n ≤ 1000) : n ≤ lineD := Nat.le_trans h (by decide)
theorem lineLt {n : Nat} (h : n < 1000) : n < lineD := Nat.lt_of_lt_of_le h (by decide)
end
end Ab
namespace Lr
open PySem Ab
theorem com_cases {c : Int} (h : ComOk c) : c = 0 ∨ c = 1 ∨ c = 2 ∨ c = 3 := by unfold ComOk at h; omega
theorem band1 {c : Int} (h : ComOk c) : Builtin.bitAnd c 1 = bit0 c := by
  rcases com_cases h with rfl | rfl | rfl | rfl <;> decide
theorem ite_min {x r : Int} : (if x < r then x else r) = min r x := by
  by_cases h : x < r
  · rw [if_pos h]; omega
  · rw [if_neg h]; omega
theorem ite_max {x r : Int} : (if x > r then x else r) = max r x := by
  by_cases h : x > r
  · rw [if_pos h]; omega
  · rw [if_neg h]; omega
theorem wd_asked_asked {P : DD → Prop} : dEq (.str (Str.ofString "asked")) (.str (Str.ofString "asked")) P ↔ P (.bool true) := by rw [dEq_s (by decide +kernel) (by decide +kernel), show decide (Str.ofString "asked" = Str.ofString "asked") = true by decide +kernel]
theorem wd_asked_clock {P : DD → Prop} : dEq (.str (Str.ofString "asked")) (.str (Str.ofString "clock")) P ↔ P (.bool false) := by rw [dEq_s (by decide +kernel) (by decide +kernel), show decide (Str.ofString "asked" = Str.ofString "clock") = false by decide +kernel]
theorem wd_asked_due {P : DD → Prop} : dEq (.str (Str.ofString "asked")) (.str (Str.ofString "due")) P ↔ P (.bool false) := by rw [dEq_s (by decide +kernel) (by decide +kernel), show decide (Str.ofString "asked" = Str.ofString "due") = false by decide +kernel]
theorem wd_asked_empty {P : DD → Prop} : dEq (.str (Str.ofString "asked")) (.str (Str.ofString "empty")) P ↔ P (.bool false) := by rw [dEq_s (by decide +kernel) (by decide +kernel), show decide (Str.ofString "asked" = Str.ofString "empty") = false by decide +kernel]
theorem wd_asked_gap {P : DD → Prop} : dEq (.str (Str.ofString "asked")) (.str (Str.ofString "gap")) P ↔ P (.bool false) := by rw [dEq_s (by decide +kernel) (by decide +kernel), show decide (Str.ofString "asked" = Str.ofString "gap") = false by decide +kernel]
theorem wd_asked_longer {P : DD → Prop} : dEq (.str (Str.ofString "asked")) (.str (Str.ofString "longer")) P ↔ P (.bool false) := by rw [dEq_s (by decide +kernel) (by decide +kernel), show decide (Str.ofString "asked" = Str.ofString "longer") = false by decide +kernel]
theorem wd_clock_asked {P : DD → Prop} : dEq (.str (Str.ofString "clock")) (.str (Str.ofString "asked")) P ↔ P (.bool false) := by rw [dEq_s (by decide +kernel) (by decide +kernel), show decide (Str.ofString "clock" = Str.ofString "asked") = false by decide +kernel]
theorem wd_clock_clock {P : DD → Prop} : dEq (.str (Str.ofString "clock")) (.str (Str.ofString "clock")) P ↔ P (.bool true) := by rw [dEq_s (by decide +kernel) (by decide +kernel), show decide (Str.ofString "clock" = Str.ofString "clock") = true by decide +kernel]
theorem wd_clock_due {P : DD → Prop} : dEq (.str (Str.ofString "clock")) (.str (Str.ofString "due")) P ↔ P (.bool false) := by rw [dEq_s (by decide +kernel) (by decide +kernel), show decide (Str.ofString "clock" = Str.ofString "due") = false by decide +kernel]
theorem wd_clock_empty {P : DD → Prop} : dEq (.str (Str.ofString "clock")) (.str (Str.ofString "empty")) P ↔ P (.bool false) := by rw [dEq_s (by decide +kernel) (by decide +kernel), show decide (Str.ofString "clock" = Str.ofString "empty") = false by decide +kernel]
theorem wd_clock_gap {P : DD → Prop} : dEq (.str (Str.ofString "clock")) (.str (Str.ofString "gap")) P ↔ P (.bool false) := by rw [dEq_s (by decide +kernel) (by decide +kernel), show decide (Str.ofString "clock" = Str.ofString "gap") = false by decide +kernel]
theorem wd_clock_longer {P : DD → Prop} : dEq (.str (Str.ofString "clock")) (.str (Str.ofString "longer")) P ↔ P (.bool false) := by rw [dEq_s (by decide +kernel) (by decide +kernel), show decide (Str.ofString "clock" = Str.ofString "longer") = false by decide +kernel]
theorem wd_due_asked {P : DD → Prop} : dEq (.str (Str.ofString "due")) (.str (Str.ofString "asked")) P ↔ P (.bool false) := by rw [dEq_s (by decide +kernel) (by decide +kernel), show decide (Str.ofString "due" = Str.ofString "asked") = false by decide +kernel]
theorem wd_due_clock {P : DD → Prop} : dEq (.str (Str.ofString "due")) (.str (Str.ofString "clock")) P ↔ P (.bool false) := by rw [dEq_s (by decide +kernel) (by decide +kernel), show decide (Str.ofString "due" = Str.ofString "clock") = false by decide +kernel]
theorem wd_due_due {P : DD → Prop} : dEq (.str (Str.ofString "due")) (.str (Str.ofString "due")) P ↔ P (.bool true) := by rw [dEq_s (by decide +kernel) (by decide +kernel), show decide (Str.ofString "due" = Str.ofString "due") = true by decide +kernel]
theorem wd_due_empty {P : DD → Prop} : dEq (.str (Str.ofString "due")) (.str (Str.ofString "empty")) P ↔ P (.bool false) := by rw [dEq_s (by decide +kernel) (by decide +kernel), show decide (Str.ofString "due" = Str.ofString "empty") = false by decide +kernel]
theorem wd_due_gap {P : DD → Prop} : dEq (.str (Str.ofString "due")) (.str (Str.ofString "gap")) P ↔ P (.bool false) := by rw [dEq_s (by decide +kernel) (by decide +kernel), show decide (Str.ofString "due" = Str.ofString "gap") = false by decide +kernel]
theorem wd_due_longer {P : DD → Prop} : dEq (.str (Str.ofString "due")) (.str (Str.ofString "longer")) P ↔ P (.bool false) := by rw [dEq_s (by decide +kernel) (by decide +kernel), show decide (Str.ofString "due" = Str.ofString "longer") = false by decide +kernel]
theorem wd_empty_asked {P : DD → Prop} : dEq (.str (Str.ofString "empty")) (.str (Str.ofString "asked")) P ↔ P (.bool false) := by rw [dEq_s (by decide +kernel) (by decide +kernel), show decide (Str.ofString "empty" = Str.ofString "asked") = false by decide +kernel]
theorem wd_empty_clock {P : DD → Prop} : dEq (.str (Str.ofString "empty")) (.str (Str.ofString "clock")) P ↔ P (.bool false) := by rw [dEq_s (by decide +kernel) (by decide +kernel), show decide (Str.ofString "empty" = Str.ofString "clock") = false by decide +kernel]
theorem wd_empty_due {P : DD → Prop} : dEq (.str (Str.ofString "empty")) (.str (Str.ofString "due")) P ↔ P (.bool false) := by rw [dEq_s (by decide +kernel) (by decide +kernel), show decide (Str.ofString "empty" = Str.ofString "due") = false by decide +kernel]
theorem wd_empty_empty {P : DD → Prop} : dEq (.str (Str.ofString "empty")) (.str (Str.ofString "empty")) P ↔ P (.bool true) := by rw [dEq_s (by decide +kernel) (by decide +kernel), show decide (Str.ofString "empty" = Str.ofString "empty") = true by decide +kernel]
theorem wd_empty_gap {P : DD → Prop} : dEq (.str (Str.ofString "empty")) (.str (Str.ofString "gap")) P ↔ P (.bool false) := by rw [dEq_s (by decide +kernel) (by decide +kernel), show decide (Str.ofString "empty" = Str.ofString "gap") = false by decide +kernel]
theorem wd_empty_longer {P : DD → Prop} : dEq (.str (Str.ofString "empty")) (.str (Str.ofString "longer")) P ↔ P (.bool false) := by rw [dEq_s (by decide +kernel) (by decide +kernel), show decide (Str.ofString "empty" = Str.ofString "longer") = false by decide +kernel]
theorem wd_gap_asked {P : DD → Prop} : dEq (.str (Str.ofString "gap")) (.str (Str.ofString "asked")) P ↔ P (.bool false) := by rw [dEq_s (by decide +kernel) (by decide +kernel), show decide (Str.ofString "gap" = Str.ofString "asked") = false by decide +kernel]
theorem wd_gap_clock {P : DD → Prop} : dEq (.str (Str.ofString "gap")) (.str (Str.ofString "clock")) P ↔ P (.bool false) := by rw [dEq_s (by decide +kernel) (by decide +kernel), show decide (Str.ofString "gap" = Str.ofString "clock") = false by decide +kernel]
theorem wd_gap_due {P : DD → Prop} : dEq (.str (Str.ofString "gap")) (.str (Str.ofString "due")) P ↔ P (.bool false) := by rw [dEq_s (by decide +kernel) (by decide +kernel), show decide (Str.ofString "gap" = Str.ofString "due") = false by decide +kernel]
theorem wd_gap_empty {P : DD → Prop} : dEq (.str (Str.ofString "gap")) (.str (Str.ofString "empty")) P ↔ P (.bool false) := by rw [dEq_s (by decide +kernel) (by decide +kernel), show decide (Str.ofString "gap" = Str.ofString "empty") = false by decide +kernel]
theorem wd_gap_gap {P : DD → Prop} : dEq (.str (Str.ofString "gap")) (.str (Str.ofString "gap")) P ↔ P (.bool true) := by rw [dEq_s (by decide +kernel) (by decide +kernel), show decide (Str.ofString "gap" = Str.ofString "gap") = true by decide +kernel]
theorem wd_gap_longer {P : DD → Prop} : dEq (.str (Str.ofString "gap")) (.str (Str.ofString "longer")) P ↔ P (.bool false) := by rw [dEq_s (by decide +kernel) (by decide +kernel), show decide (Str.ofString "gap" = Str.ofString "longer") = false by decide +kernel]
theorem wd_longer_asked {P : DD → Prop} : dEq (.str (Str.ofString "longer")) (.str (Str.ofString "asked")) P ↔ P (.bool false) := by rw [dEq_s (by decide +kernel) (by decide +kernel), show decide (Str.ofString "longer" = Str.ofString "asked") = false by decide +kernel]
theorem wd_longer_clock {P : DD → Prop} : dEq (.str (Str.ofString "longer")) (.str (Str.ofString "clock")) P ↔ P (.bool false) := by rw [dEq_s (by decide +kernel) (by decide +kernel), show decide (Str.ofString "longer" = Str.ofString "clock") = false by decide +kernel]
theorem wd_longer_due {P : DD → Prop} : dEq (.str (Str.ofString "longer")) (.str (Str.ofString "due")) P ↔ P (.bool false) := by rw [dEq_s (by decide +kernel) (by decide +kernel), show decide (Str.ofString "longer" = Str.ofString "due") = false by decide +kernel]
theorem wd_longer_empty {P : DD → Prop} : dEq (.str (Str.ofString "longer")) (.str (Str.ofString "empty")) P ↔ P (.bool false) := by rw [dEq_s (by decide +kernel) (by decide +kernel), show decide (Str.ofString "longer" = Str.ofString "empty") = false by decide +kernel]
theorem wd_longer_gap {P : DD → Prop} : dEq (.str (Str.ofString "longer")) (.str (Str.ofString "gap")) P ↔ P (.bool false) := by rw [dEq_s (by decide +kernel) (by decide +kernel), show decide (Str.ofString "longer" = Str.ofString "gap") = false by decide +kernel]
theorem wd_longer_longer {P : DD → Prop} : dEq (.str (Str.ofString "longer")) (.str (Str.ofString "longer")) P ↔ P (.bool true) := by rw [dEq_s (by decide +kernel) (by decide +kernel), show decide (Str.ofString "longer" = Str.ofString "longer") = true by decide +kernel]
end Lr
namespace Lr
open PySem Ab
theorem Rule.d_inj : ∀ {r r' : Rule}, r.d = r'.d → r = r' := by
  intro r r' e
  have ne : ∀ {a b : Str} {x y : List DD}, a ≠ b → PyData.tuple (.str a :: x) ≠ PyData.tuple (.str b :: y) := fun h e => by
    injection e with e
    injection e with e _
    injection e with e
    exact h e
  cases r <;> cases r' <;> first
    | exact absurd e (ne (by decide +kernel))
    | (simp only [Rule.d, PyData.tuple.injEq, List.cons.injEq, PyData.int.injEq, and_true, true_and] at e; first | rw [e] | rw [e.1, e.2])
theorem lnD_inj {a b c d : Int} (e : lnD a b = lnD c d) : a = c ∧ b = d := by
  simp only [lnD, PyData.tuple.injEq, List.cons.injEq, PyData.int.injEq, and_true] at e
  exact e
theorem Sta.d_inj {s s' : Sta} (e : s.d = s'.d) : s = s' := by
  cases s; cases s'
  simp only [Sta.d, lnD, PyData.tuple.injEq, List.cons.injEq, PyData.int.injEq, and_true] at e
  obtain ⟨rfl, rfl, rfl, rfl, rfl, rfl, rfl⟩ := e
  rfl
theorem W_join_i {room a b c : Int} {P : DD → Prop} (hc : ComOk c) : W_join [.va (.int room), .va (lnD a b), .va (.int c)] P ↔ P (.tuple [lnD (min room (a + bit0 c)) (min room (b + bit1 c)), .int ((a + bit0 c) + (b + bit1 c) - (min room (a + bit0 c) + min room (b + bit1 c)))]) := by
  constructor
  · rintro ⟨r, a', b', c', e, _, q⟩
    simp only [lnD, List.cons.injEq, Sl.va.injEq, PyData.int.injEq, PyData.tuple.injEq, and_true] at e
    obtain ⟨rfl, ⟨rfl, rfl⟩, rfl⟩ := e
    exact q
  · intro q
    exact ⟨room, a, b, c, rfl, hc, q⟩
theorem W_changes_i {rule : Rule} {road age rest wait a b : Int} {P : DD → Prop} (hr : road = 0 ∨ road = 1) : W_changes [.va rule.d, .va (.int road), .va (.int age), .va (.int rest), .va (.int wait), .va (lnD a b)] P ↔ P (.bool (changes rule road age rest wait a b)) := by
  constructor
  · rintro ⟨r, x1, x2, x3, x4, x5, x6, e, _, q⟩
    simp only [lnD, List.cons.injEq, Sl.va.injEq, PyData.int.injEq, PyData.tuple.injEq, and_true] at e
    obtain ⟨e1, rfl, rfl, rfl, rfl, rfl, rfl⟩ := e
    rw [Rule.d_inj e1]
    exact q
  · intro q
    exact ⟨rule, road, age, rest, wait, a, b, rfl, hr, q⟩
theorem W_leave_n {a b : Int} {P : DD → Prop} : W_leave [.va (lnD a b), .va .none] P ↔ P (.tuple [lnD a b, .int 0]) := by
  constructor
  · rintro ⟨a', b', l, e, _, q⟩
    simp only [List.cons.injEq, Sl.va.injEq, and_true] at e
    obtain ⟨e1, e2⟩ := e
    obtain ⟨rfl, rfl⟩ := lnD_inj e1
    cases l with
    | dark => exact q
    | r i => cases e2
  · intro q
    exact ⟨a, b, .dark, rfl, (fun _ h => by cases h), q⟩
theorem W_leave_r {a b r : Int} {P : DD → Prop} (hr : r = 0 ∨ r = 1) : W_leave [.va (lnD a b), .va (.int r)] P ↔ ((ln r a b = 0 → P (.tuple [lnD a b, .int 0])) ∧ (¬ ln r a b = 0 → (r = 0 → P (.tuple [lnD (a - 1) b, .int 1])) ∧ (¬ r = 0 → P (.tuple [lnD a (b - 1), .int 1])))) := by
  have key : ((ln r a b = 0 → P (.tuple [lnD a b, .int 0])) ∧ (¬ ln r a b = 0 → (r = 0 → P (.tuple [lnD (a - 1) b, .int 1])) ∧ (¬ r = 0 → P (.tuple [lnD a (b - 1), .int 1])))) ↔ P (if ln r a b = 0 then .tuple [lnD a b, .int 0] else if r = 0 then .tuple [lnD (a - 1) b, .int 1] else .tuple [lnD a (b - 1), .int 1]) := by
    by_cases h : ln r a b = 0
    · simp [h]
    · by_cases h2 : r = 0
      · subst h2
        simp [h]
      · simp [h, h2]
  rw [key]
  constructor
  · rintro ⟨a', b', l, e, _, q⟩
    simp only [List.cons.injEq, Sl.va.injEq, and_true] at e
    obtain ⟨e1, e2⟩ := e
    obtain ⟨rfl, rfl⟩ := lnD_inj e1
    cases l with
    | dark => cases e2
    | r i => cases e2; exact q
  · intro q
    exact ⟨a, b, .r r, rfl, (fun _ h => by cases h; exact hr), q⟩
theorem W_first_i {P : DD → Prop} : W_first [] P ↔ P sta0.d := ⟨fun ⟨_, q⟩ => q, fun q => ⟨rfl, q⟩⟩
theorem W_tick_i {room pause c : Int} {rule : Rule} {s : Sta} {P : DD → Prop} (hc : CrOk room pause) (hs : StaOk room s) (hk : ComOk c) : W_tick [.va (crD room pause), .va rule.d, .va s.d, .va (.int c)] P ↔ P (tick room pause rule s c).d := by
  constructor
  · rintro ⟨r, p, ru, s', c', e, _, _, _, q⟩
    simp only [crD, List.cons.injEq, Sl.va.injEq, PyData.int.injEq, PyData.tuple.injEq, and_true] at e
    obtain ⟨⟨rfl, rfl⟩, e1, e2, rfl⟩ := e
    rw [Rule.d_inj e1, Sta.d_inj e2]
    exact q
  · intro q
    exact ⟨room, pause, rule, s, c, rfl, hc, hs, hk, q⟩
theorem dIx_ln {a b i : Int} {P : DD → Prop} : dIx (lnD a b) (.int i) P ↔ ∃ d, L2.atI [PyData.int a, .int b] i = some d ∧ P d := dIx_t
end Lr
namespace Ab
open PySem PySem.Spec PyProof.Rows L2
def tnD : DD → String
  | .none => "NoneType" | .bool _ => "bool" | .int _ => "int" | .str _ => "str" | .list _ => "list" | .tuple _ => "tuple" | .dict _ => "dict"
def isiD (T : String) (d : DD) : Bool := tnD d == T || (T == "int" && tnD d == "bool")
def TyY (K : PySem.W.Frag) (H : Hp) (x : V) (t : Value) : Prop := TyX K H x t ∨ ∃ a o, x = .ref a ∧ H a = some (KDo a o) ∧ o.ExactDict ∧ t = .type "dict"
theorem tyx_of {K : KW} {F H : Hp} (sb : Sub F H) {v : V} {d : DD} (h : Rp K F v d) : TyY K H v (.type (tnD d)) := by
  cases h with
  | non => exact .inl (.base .non)
  | bl b => exact .inl (.base (.bl b))
  | int i => exact .inl (.base (.int i))
  | str x => exact .inl (.base (.str x))
  | lst a b => exact .inl (.base (.lst (sb _ _ a)))
  | tup a b =>
    rcases a with (a | ⟨o, a⟩) | ⟨o, its, n, a, c, _⟩
    · exact .inl (.base (.tup (sb _ _ a)))
    · exact .inl (.fTuple (sb _ _ a))
    · exact .inl (.kTuple a c)
  | dct a b c => exact .inr ⟨_, _, rfl, sb _ _ a, b.1, rfl⟩
def rIsi2 (K : PySem.W.Frag) : List V → Hp → VK → Prop := fun xs H Q => ∃ (x c : V) (t u : Value) (b : Bool), xs = [x, c] ∧ ClsV c u ∧ TyY K H x t ∧ PySem.W.kitOne K t u = some b ∧ Q (.bl b) H
theorem call_isi2 {X : Cx} : CallR X (.builtin "isinstance") (rIsi2 X.K) := by
  intro pins s σ H xs us Q I r h
  obtain ⟨x, c, t, u, b, rfl, k, ty, e, q⟩ := h
  rcases ty with ty | ⟨a, o, rfl, ea, ex, rfl⟩
  · exact call_isi pins s σ H _ us Q I r ⟨x, c, t, u, b, rfl, k, ty, e, q⟩
  · obtain ⟨u1, u2, rfl, r1, r2⟩ := vals2 r
    have e2 := k.eq r2
    subst e2
    cases r1
    have ho : s.heap.get? a = some o := (I.hok a _ ea).1
    exact PySem.W.kia_one PySem.W.kitx_dict I.kIn ⟨o, ho, ex.1⟩ e (fun z => nomatch z) fun tk => ⟨.bl b, H, I.tok tk, rfl, q⟩
theorem kit_data {T : String} (hT : T = "int" ∨ T = "bool" ∨ T = "str" ∨ T = "list" ∨ T = "tuple") (d : DD) : kitB (tnD d) T = some (isiD T d) := by
  rcases hT with rfl | rfl | rfl | rfl | rfl <;> cases d <;> first | (show kitB _ _ = some _; decide +kernel) | rfl
section
variable {X : Cx} {e a b c : Expr} {es : List Expr} {pos p : Pos} {α β γ : AEx} {x y : Str}
def aIsi (T : String) (α : AEx) : AEx := fun env P => α env fun d => P (.bool (isiD T d))
theorem j_isi (T : String) {p2 : Pos} (hT : T = "int" ∨ T = "bool" ∨ T = "str" ∨ T = "list" ∨ T = "tuple") (hm : X.mg x = none) (hv : bootBuiltins x = some (.builtin "isinstance")) (hm2 : X.mg y = none) (hv2 : bootBuiltins y = some (.type T)) (he : JE X e α)
    (hg : Gl X x := by rfl) (hg2 : Gl X y := by rfl) (hn : x ≠ "__name__" := by decide) (hdb : (x == ("__debug__" : Str)) = false := by decide) (hn2 : y ≠ "__name__" := by decide) (hdb2 : (y == ("__debug__" : Str)) = false := by decide)
    (h1 : starEach [e, .Name y p2] X.env = (false, eval e X.env) :: starEach [.Name y p2] X.env := by rfl) (h2 : starEach [.Name y p2] X.env = (false, eval (.Name y p2) X.env) :: starEach [] X.env := by rfl) (hpl : (backTo pos (starEach [.Name y p2] X.env)).any (·.1) = false := by rfl) :
    JE X (.Call (.Name x p) [e, .Name y p2] [] pos) (aIsi T α) := by
  obtain ⟨t, a1, a2⟩ := he.ex
  refine ⟨_, pe_callB call_isi2 hg hm hv (pa_cons a1 (pa_cons (pe_bltn (v := .ty T) hg2 hm2 hv2 rfl hn2 hdb2) pa_nil h2) h1) hn hdb h1 hpl, fun B F0 M T' env σ H F R0 P p Q q => ?_⟩
  refine a2 B F0 M T' env σ H F R0 _ p _ fun v d H1 F1 s1 d1 p1 => ?_
  exact ⟨v, .ty T, _, _, isiD T d, rfl, .ty T, tyx_of s1.sub d1, kit_ty (kit_data hT d), q _ _ H1 F1 s1 (.bl _) p1⟩
theorem j_glob {i : Int} (h : ∃ t, X.mg x = some (.int i t)) (hg : Gl X x := by rfl) (hdb : (x == ("__debug__" : Str)) = false := by decide) : JE X (.Name x pos) (aC (.int i)) := by
  obtain ⟨t, h⟩ := h
  exact ⟨_, pe_glob (v := .int i) hg h ⟨t, rfl⟩ hdb, sim_c fun _ => .int i⟩
structure Tbl (K : PySem.W.Frag) (w : World) (mg : Str → Option Value) (x : Str) (tb : List (Str × Int)) : Prop where
  ex : ∃ d es n, KDict K w d es n ∧ mg x = some (.ref d) ∧ ∀ p ∈ tb, ∃ t, PySem.W.nsIn K d p.1 = some (some (.int p.2 t))
def aNiTab (tb : List (Str × Int)) (α : AEx) : AEx := fun env P => α env fun y => ∃ z n, y = .str z ∧ (z, n) ∈ tb ∧ P (.bool false)
theorem sim_niTab {K : KW} {w : World} {d : Addr} {tb : List (Str × Int)} {t : TE} (ht : ∀ p ∈ tb, ∃ t, PySem.W.nsIn K d p.1 = some (some (.int p.2 t))) (h : SimE K t α) :
    SimE K (tOp (fun x y H Q => ∃ (z : Str) (r : Option Value), x = .str z ∧ y = .ref d ∧ PySem.W.nsIn K d z = some r ∧ Q (.bl (!r.isSome)) H) t (tC (.ref d))) (aNiTab tb α) := fun B F0 M T' env σ H F R0 P p Q q => by
  refine h B F0 M T' env σ H F R0 _ p _ fun v d1 H1 F1 s1 r1 p1 => ?_
  obtain ⟨z, m, rfl, hz, p1⟩ := p1
  obtain ⟨tk, ek⟩ := ht _ hz
  cases r1
  exact ⟨z, _, rfl, rfl, ek, q _ _ H1 F1 s1 (.bl _) p1⟩
theorem jt_niTab {tb : List (Str × Int)} {p2 : Pos} (T : Tbl X.K X.w X.mg x tb) (he : JE X e α) (hg : Gl X x := by rfl) (hdb : (x == ("__debug__" : Str)) = false := by decide) (hm : behindInMarks .NotIn (.Name x p2) = false := by rfl) : JT X (.Compare e [.NotIn] [.Name x p2] pos) (aT (aNiTab tb α)) := by
  obtain ⟨d, es, n, D, gm, ht⟩ := T.ex
  obtain ⟨t, a1, a2⟩ := he.ex
  exact ⟨_, pt_cmpR (op_notIn_kd D) a1 (pe_glob (v := .ref d) hg gm rfl hdb) hm, sim_test (sim_niTab (w := X.w) ht a2)⟩
def aIxTab (tb : List (Str × Int)) (α : AEx) : AEx := fun env P => α env fun y => ∃ z n, y = .str z ∧ (z, n) ∈ tb ∧ P (.int n)
theorem j_ixTab {tb : List (Str × Int)} {p2 : Pos} (T : Tbl X.K X.w X.mg x tb) (he : JE X e α) (hg : Gl X x := by rfl) (hdb : (x == ("__debug__" : Str)) = false := by decide) (hs : PlainIx e := by intro _ _; rfl) : JE X (.Subscript (.Name x p2) e pos) (aIxTab tb α) := by
  obtain ⟨d, es, n, D, gm, ht⟩ := T.ex
  obtain ⟨t, a1, a2⟩ := he.ex
  refine ⟨_, pe_ix ix_kdict (pe_glob (v := .ref d) hg gm rfl hdb) a1 hs, fun B F0 M T' env σ H F R0 P p Q q => ?_⟩
  refine a2 B F0 M T' env σ H F R0 _ p _ fun v d1 H1 F1 s1 r1 p1 => ?_
  obtain ⟨z, m, rfl, hz, p1⟩ := p1
  obtain ⟨tk, ek⟩ := ht _ hz
  cases r1
  exact ⟨d, z, .int m, rfl, rfl, ⟨es, n, _, D.at_, D.lit, ek, ⟨tk, rfl⟩⟩, q _ _ H1 F1 s1 (.int _) p1⟩
end
section
variable {prog : Program} {w : World} {A : Around} {E : Value → Shared → Prop} {s : Shared}
theorem star_tup {l : Addr} {x : Value} {r : List Value} {Q : List Value → Shared → Prop} (hl : IsTup s.heap l (x :: r).toArray) (hh : A.handled = none) (hz : r.length ≤ 10000)
    (h : ∀ (h' : Heap) (tk : Nat), (∀ b o, s.heap.get? b = some o → h'.get? b = some o) → Q [x, .ref h'.objs.size] { s with heap := h'.push { cls := .type "list", data := .seq r.toArray }, toks := tk }) : wpAny (model prog w) A (unpackItems (.ref l) 2 (some 1)) Q E s := by
  have h0 : l < s.heap.objs.size := hl.lt
  have hne : l ≠ s.heap.objs.size := Nat.ne_of_lt h0
  unfold unpackItems
  apply wpAny_bind
  unfold notIterableAtAll
  apply wpAny_bind
  apply wpAny_specialOf hl.typeIs slot_tuple_iter.lookup
  apply wpAny_pure
  simp only [Bool.false_eq_true, if_false]
  refine wpAny_bind (wpAny_holding (iter_tuple hl (wpAny_bind (wpAny_holding (draw_tuple hne 1 0 _ _ ⟨_, Heap.get?_push_size _ rfl, rfl, rfl⟩ (hl.push _) (by simp) fun h1 it1 sm => ?_)))))
  have hl1 : IsTup h1 l (x :: r).toArray := (hl.push _).extBut sm.extBut hne
  rw [Nat.zero_add] at it1
  obtain ⟨oi, ei, _⟩ := id it1
  obtain ⟨ol, el, _⟩ := id hl1
  have ez : (x :: r).toArray.size = r.length + 1 := by simp
  rw [if_neg (by simp)]
  refine wpAny_bind (wpAny_holding (PySem.W.kun_collect (s := { s with heap := h1 }) (T := "tuple_iterator") (.inr (.inr (.inr rfl))) (Walks.tuple (A := A.in1) hh s.heap.objs.size l hne (x :: r).toArray) (fun j u st => st.1.typeIs) (k := 1) (by rw [ez]; omega)
    ⟨it1, hl1⟩ (Heap.lt_size ei) (Heap.lt_size el) (fun h2 tk hk => ?_) (by rw [ez, sizeLine_eq]; omega)))
  have e1 : ((x :: r).toArray.toList.drop 1) = r := rfl
  have e2 : (((x :: r).toArray.toList.drop 0).take 1) = [x] := rfl
  rw [e1, e2]
  show wpAny _ _ (if r.length < 2 - 1 - 1 then _ else _) _ _ _
  rw [if_neg (by omega)]
  have e3 : r.length - (2 - 1 - 1) = r.length := by omega
  show wpAny _ _ (newList (r.take (r.length - (2 - 1 - 1))) >>= fun d => pure ([x] ++ [d] ++ r.drop (r.length - (2 - 1 - 1)))) _ _ _
  rw [e3, List.take_length, List.drop_length]
  refine wpAny_bind (wpAny_newList (wpAny_pure ?_) (by rw [sizeLine_eq]; omega))
  exact h h2 tk fun b o e => hk b o (Nat.ne_of_lt (Heap.lt_size e)) (sm.extBut b o (Nat.ne_of_lt (Heap.lt_size e)) (Heap.get?_push_of_some _ e))
end
section
variable {X : Cx} {e a b c : Expr} {pos p : Pos} {α β γ : AEx} {x y : Str}
def gStar (K : KW) (i j : Nat) : TG := fun v σ H Q => ∃ a u vs, v = .ref a ∧ SqT K H a (u :: vs) ∧ vs.length ≤ 10000 ∧ ∀ q, H q = none → Q ((σ.set i (some u)).set j (some (.ref q))) (upd H q (.lst vs))
theorem pg_star {i j : Nat} {px py ps : Pos} {k : Nat} (hc : X.calm = true) (nd : X.N.Nodup) (hi : X.N[i]? = some x) (hj : X.N[j]? = some y) (hx : Loc X.env.scope x) (hy : Loc X.env.scope y)
    (hfx : X.fn x = true ∨ X.env.scope.names.lookup x = some .local) (hfy : X.fn y = true ∨ X.env.scope.names.lookup y = some .local) : PG X (.Tuple [.Name x px, .Starred (.Name y py) ps] k pos) (gStar (kw X) i j) := by
  refine ⟨fun pins s σ H v u Q I r h => ?_⟩
  obtain ⟨a, u0, vs, rfl, hs, hl, q⟩ := h
  cases r
  obtain ⟨its, rv, ht, hz⟩ := I.tuple hs
  cases rv with
  | @cons _ u1 _ us ru rr =>
    rw [arm_assign_Tuple]
    refine wpAny_bind (wpAny_standAt ?_)
    show wpAny _ _ (unpack (.ref a) [(false, assign (.Name x px) X.env), (true, assign (.Name y py) X.env)]) _ _ _
    unfold unpack
    have hlen : us.length ≤ 10000 := by rw [← rr.length]; exact hl
    refine wpAny_bind (wpAny_holding (star_tup ht (I.ok.hd hc) hlen fun h' tk hk => ?_))
    have I1 : Inv X pins σ H { s with heap := h', toks := tk } := I.kept hk
    have I2 := I1.lnew (t' := tk) rr (by rw [sizeLine_eq]; omega)
    have fr := I1.fresh
    refine assignInOrder_cons (wpAny_assign_Name (store_ok I2 nd hi hx ru (fun s2 I3 => ?_) hfx))
    refine assignInOrder_cons (wpAny_assign_Name (store_ok (v := .ref h'.objs.size) I3 nd hj hy rfl (fun s3 I4 => ?_) hfy))
    exact assignInOrder_nil ⟨_, _, I4, q _ fr⟩
def tgStar (i j : Nat) : DD → AE → (AE → Prop) → Prop := fun d env P => ∃ x xs, d = .tuple (x :: xs) ∧ xs.length ≤ 1000 ∧ P ((env.set i (.va x)).set j (.va (.list xs)))
theorem jg_star (i j : Nat) {px py ps : Pos} {k : Nat} (hc : X.calm = true) (nd : X.N.Nodup) (hi : X.N[i]? = some x := by rfl) (hj : X.N[j]? = some y := by rfl) (hx : Loc X.env.scope x := by first | exact Or.inl rfl | exact Or.inr rfl) (hy : Loc X.env.scope y := by first | exact Or.inl rfl | exact Or.inr rfl)
    (hfx : X.fn x = true ∨ X.env.scope.names.lookup x = some .local := by first | exact .inl rfl | exact .inr rfl) (hfy : X.fn y = true ∨ X.env.scope.names.lookup y = some .local := by first | exact .inl rfl | exact .inr rfl) : JG X (.Tuple [.Name x px, .Starred (.Name y py) ps] k pos) (tgStar i j) :=
  ⟨_, pg_star hc nd hi hj hx hy hfx hfy, fun B F0 M T env σ H F R0 v d hd P p Q q => by
    obtain ⟨x0, xs, rfl, hl, p⟩ := p
    cases hd with
    | tup g1 g2 =>
      cases g2 with
      | @cons v0 vs _ _ r1 r2 =>
        refine ⟨_, v0, vs, rfl, R0.sub.seqT g1, by rw [r2.len]; omega, fun c hc => ?_⟩
        have st : Stp T H F (upd H c (.lst vs)) (upd F c (.lst vs)) := .al R0.bs hc
        exact q _ _ _ _ st (((R0.step st).put (Rp.sub st.ext _ r1) _ rfl).put (.lst upd_same (RpAll.sub st.ext _ r2)) _ rfl) p⟩
end
theorem loop_inv {g : DD → AE → (AE → Prop) → Prop} {s : ASx} {A : AEnds} (I : List DD → AE → Prop) (step : ∀ d ds env (N : AE → Prop), I (d :: ds) env → (∀ e, I ds e → N e) → g d env fun env' => s { A with nx := N, ct := N, bk := A.nx } env') (done : ∀ env, I [] env → A.nx env) :
    ∀ ds env, I ds env → aLoop g s A ds env
  | [], env, h => done env h
  | d :: ds, env, h => step d ds env (aLoop g s A ds) h fun e he => loop_inv I step done ds e he
theorem coll_map {i : Nat} {α : AEx} {env : AE} {P : List DD → Prop} (f : DD → DD) : ∀ (ds acc : List DD), (∀ d ∈ ds, ∀ Q : DD → Prop, Q (f d) → α (env.set i (.va d)) Q) → P (acc ++ ds.map f) → aColl (tgN i) aYes α env P ds acc
  | [], acc, _, h => by
    rw [List.map_nil, List.append_nil] at h
    exact h
  | d :: ds, acc, hf, h => by
    refine ⟨fun _ => hf d List.mem_cons_self _ (coll_map f ds (acc ++ [f d]) (fun e he => hf e (List.mem_cons_of_mem _ he)) ?_), fun z => by cases z⟩
    rw [List.append_assoc]
    exact h
end Ab
namespace Lr
open PySem Ab
def isNum (lo hi : Int) : DD → Bool
  | .int i => decide (lo ≤ i) && decide (i ≤ hi)
  | _ => false
def isCr : DD → Bool
  | .tuple [a, b] => isNum 1 3 a && isNum 0 2 b
  | _ => false
def areCo : DD → Bool
  | .list xs => decide (xs.length ≤ 40) && xs.all (isNum 0 3)
  | _ => false
def nbT : List (Str × Int) := [("asked", 1), ("clock", 2), ("due", 1), ("empty", 1), ("gap", 2), ("longer", 1)]
def nbGet (z : Str) : Option Int := (nbT.find? fun p => decide (p.1 = z)).map (·.2)
def isRule : DD → Bool
  | .tuple (.str z :: ns) => match nbGet z with
    | some n => decide ((ns.length : Int) = n) && ns.all (isNum 1 4)
    | none => false
  | _ => false
theorem nb_get {z : Str} {n : Int} (h : (z, n) ∈ nbT) : nbGet z = some n := by
  simp only [nbT, List.mem_cons, Prod.mk.injEq, List.not_mem_nil, or_false] at h
  rcases h with ⟨rfl, rfl⟩ | ⟨rfl, rfl⟩ | ⟨rfl, rfl⟩ | ⟨rfl, rfl⟩ | ⟨rfl, rfl⟩ | ⟨rfl, rfl⟩ <;> decide +kernel
/-- what may be asked of is_rule: a tuple that begins with a text begins with a word of the table -/
def RuleAsk (d : DD) : Prop := (∀ xs, d = .tuple xs → xs.length ≤ 100) ∧ ∀ z ns, d = .tuple (.str z :: ns) → ∃ n, (z, n) ∈ nbT
def W_is_number : Wt := fun as P => ∃ d lo hi, as = [.va d, .va (.int lo), .va (.int hi)] ∧ P (.bool (isNum lo hi d))
def W_is_crossing : Wt := fun as P => ∃ d, as = [.va d] ∧ (∀ xs, d = .tuple xs → xs.length ≤ 100) ∧ P (.bool (isCr d))
def W_is_rule : Wt := fun as P => ∃ d, as = [.va d] ∧ RuleAsk d ∧ P (.bool (isRule d))
def W_are_comings : Wt := fun as P => ∃ d, as = [.va d] ∧ (∀ xs, d = .list xs → xs.length ≤ 1000) ∧ P (.bool (areCo d))
def W_ck_cr : Wt := fun as P => ∃ room pause, as = [.va (crD room pause)] ∧ CrOk room pause ∧ P .none
def W_ck_ru : Wt := fun as P => ∃ rule : Rule, as = [.va rule.d] ∧ rule.ok ∧ P .none
def coD (cs : List Int) : DD := .list (cs.map PyData.int)
def CosOk (cs : List Int) : Prop := cs.length ≤ 40 ∧ ∀ c ∈ cs, ComOk c
def W_ck_co : Wt := fun as P => ∃ cs, as = [.va (coD cs)] ∧ CosOk cs ∧ P .none
theorem W_is_number_i {d : DD} {lo hi : Int} {P : DD → Prop} : W_is_number [.va d, .va (.int lo), .va (.int hi)] P ↔ P (.bool (isNum lo hi d)) := by
  constructor
  · rintro ⟨d', l, h, e, q⟩
    simp only [List.cons.injEq, Sl.va.injEq, PyData.int.injEq, and_true] at e
    obtain ⟨rfl, rfl, rfl⟩ := e
    exact q
  · intro q
    exact ⟨d, lo, hi, rfl, q⟩
theorem W_is_crossing_i {d : DD} {P : DD → Prop} (h : ∀ xs, d = .tuple xs → xs.length ≤ 100) : W_is_crossing [.va d] P ↔ P (.bool (isCr d)) :=
  ⟨fun ⟨d', e, _, q⟩ => by simp only [List.cons.injEq, Sl.va.injEq, and_true] at e; subst e; exact q, fun q => ⟨d, rfl, h, q⟩⟩
theorem W_is_rule_i {d : DD} {P : DD → Prop} (h : RuleAsk d) : W_is_rule [.va d] P ↔ P (.bool (isRule d)) :=
  ⟨fun ⟨d', e, _, q⟩ => by simp only [List.cons.injEq, Sl.va.injEq, and_true] at e; subst e; exact q, fun q => ⟨d, rfl, h, q⟩⟩
theorem W_are_comings_i {d : DD} {P : DD → Prop} (h : ∀ xs, d = .list xs → xs.length ≤ 1000) : W_are_comings [.va d] P ↔ P (.bool (areCo d)) :=
  ⟨fun ⟨d', e, _, q⟩ => by simp only [List.cons.injEq, Sl.va.injEq, and_true] at e; subst e; exact q, fun q => ⟨d, rfl, h, q⟩⟩
theorem isCr_ok {room pause : Int} (h : CrOk room pause) : isCr (crD room pause) = true := by
  obtain ⟨⟨h1, h2⟩, h3, h4⟩ := h
  simp [isCr, crD, isNum, h1, h2, h3, h4]
theorem n4 {n : Int} (h : N4 n) : isNum 1 4 (.int n) = true := by simp [isNum, h.1, h.2]
theorem isRule_ok {r : Rule} (h : r.ok) : isRule r.d = true := by
  cases r with
  | asked n => simp [isRule, Rule.d, n4 h, nb_get (z := "asked") (n := 1) (by decide +kernel)]
  | clock a b => simp [isRule, Rule.d, n4 h.1, n4 h.2, nb_get (z := "clock") (n := 2) (by decide +kernel)]
  | due n => simp [isRule, Rule.d, n4 h, nb_get (z := "due") (n := 1) (by decide +kernel)]
  | empty n => simp [isRule, Rule.d, n4 h, nb_get (z := "empty") (n := 1) (by decide +kernel)]
  | gap i m => simp [isRule, Rule.d, n4 h.1, n4 h.2, nb_get (z := "gap") (n := 2) (by decide +kernel)]
  | longer n => simp [isRule, Rule.d, n4 h, nb_get (z := "longer") (n := 1) (by decide +kernel)]
theorem ruleAsk_ok {r : Rule} : RuleAsk r.d := by
  refine ⟨fun xs e => ?_, fun z ns e => ?_⟩
  · cases r <;> (simp only [Rule.d, PyData.tuple.injEq] at e; subst e; simp)
  · cases r with
    | asked n => cases e; exact ⟨1, by decide +kernel⟩
    | clock a b => cases e; exact ⟨2, by decide +kernel⟩
    | due n => cases e; exact ⟨1, by decide +kernel⟩
    | empty n => cases e; exact ⟨1, by decide +kernel⟩
    | gap i m => cases e; exact ⟨2, by decide +kernel⟩
    | longer n => cases e; exact ⟨1, by decide +kernel⟩
theorem areCo_ok {cs : List Int} (h : CosOk cs) : areCo (coD cs) = true := by
  unfold areCo coD
  simp only [List.length_map, List.all_map, Bool.and_eq_true, decide_eq_true_eq, List.all_eq_true, Function.comp]
  exact ⟨h.1, fun c hc => by simp [isNum, (h.2 c hc).1, (h.2 c hc).2]⟩
def run (room pause : Int) (rule : Rule) : Sta → List Int → List Res
  | _, [] => []
  | s, c :: cs => tick room pause rule s c :: run room pause rule (tick room pause rule s c).s cs
theorem run_len {room pause : Int} {rule : Rule} : ∀ (cs : List Int) (s : Sta), (run room pause rule s cs).length = cs.length
  | [], _ => rfl
  | c :: cs, s => by rw [run, List.length_cons, List.length_cons, run_len cs]
def lnR (r : Res) : DD := lnD r.s.a r.s.b
def cnR (r : Res) : DD := .tuple [.int r.passed, .int r.lost]
def tkD (r : Res) : DD := .tuple [r.light.d, lnR r, cnR r]
theorem tick_ok {room pause : Int} {rule : Rule} {s : Sta} {c : Int} (hc : CrOk room pause) (hs : StaOk room s) (hk : ComOk c) : StaOk room (tick room pause rule s c).s := by
  obtain ⟨⟨h1, h2⟩, h3, h4⟩ := hc
  obtain ⟨hr, hl, ⟨ha, ha'⟩, hb, hb'⟩ := hs
  have b0 : 0 ≤ bit0 c := by unfold bit0; omega
  have b1 : 0 ≤ bit1 c := by unfold bit1; have := hk.1; omega
  unfold tick StaOk
  simp only []
  generalize (decide (s.left = 0) && changes rule s.road s.age s.rest s.wait (min room (s.a + bit0 c)) (min room (s.b + bit1 c))) = ch
  have m1 : 0 ≤ min room (s.a + bit0 c) ∧ min room (s.a + bit0 c) ≤ room := by omega
  have m2 : 0 ≤ min room (s.b + bit1 c) ∧ min room (s.b + bit1 c) ≤ room := by omega
  generalize min room (s.a + bit0 c) = a1 at m1 ⊢
  generalize min room (s.b + bit1 c) = b1' at m2 ⊢
  unfold ln
  refine ⟨?_, by omega, ⟨?_, ?_⟩, ?_, ?_⟩
  · cases ch
    · exact hr
    · show 1 - s.road = 0 ∨ 1 - s.road = 1
      omega
  all_goals
    repeat' split
    all_goals omega
theorem sta0_ok {room : Int} (h : 1 ≤ room) : StaOk room sta0 := ⟨.inl rfl, Int.le_refl _, ⟨Int.le_refl _, by show (0 : Int) ≤ room; omega⟩, Int.le_refl _, by show (0 : Int) ≤ room; omega⟩
def W_ticks : Wt := fun as P => ∃ room pause rule cs, as = [.va (crD room pause), .va (Rule.d rule), .va (coD cs)] ∧ CrOk room pause ∧ rule.ok ∧ CosOk cs ∧ P (.list ((run room pause rule sta0 cs).map tkD))
def W_lights : Wt := fun as P => ∃ room pause rule cs, as = [.va (crD room pause), .va (Rule.d rule), .va (coD cs)] ∧ CrOk room pause ∧ rule.ok ∧ CosOk cs ∧ P (.list ((run room pause rule sta0 cs).map (·.light.d)))
theorem coD_inj {cs cs' : List Int} (e : coD cs = coD cs') : cs = cs' := by
  simp only [coD, PyData.list.injEq] at e
  exact List.map_inj_right (fun a b h => by injection h) |>.mp e
theorem ex_co {cs : List Int} {Q : List DD → Prop} : (∃ ds, coD cs = .list ds ∧ Q ds) ↔ Q (cs.map PyData.int) := ex_list
theorem dIx_staL {s : Sta} {P : DD → Prop} : dIx s.d (.int (-1)) P ↔ P (lnD s.a s.b) := by
  unfold Sta.d
  rw [dIx_t]
  exact ⟨fun ⟨d, e, q⟩ => by cases e; exact q, fun q => ⟨_, rfl, q⟩⟩
theorem crD_inj {a b c d : Int} (e : crD a b = crD c d) : a = c ∧ b = d := lnD_inj e
theorem W3_i {f : Res → DD} {room pause : Int} {rule : Rule} {cs : List Int} {P : DD → Prop} (hc : CrOk room pause) (hr : rule.ok) (hk : CosOk cs) :
    (∃ room' pause' rule' cs', [Sl.va (crD room pause), Sl.va (Rule.d rule), Sl.va (coD cs)] = [.va (crD room' pause'), .va (Rule.d rule'), .va (coD cs')] ∧ CrOk room' pause' ∧ rule'.ok ∧ CosOk cs' ∧ P (.list ((run room' pause' rule' sta0 cs').map f))) ↔ P (.list ((run room pause rule sta0 cs).map f)) := by
  constructor
  · rintro ⟨r, p, ru, cs', e, _, _, _, q⟩
    simp only [List.cons.injEq, Sl.va.injEq, and_true] at e
    obtain ⟨e1, e2, e3⟩ := e
    obtain ⟨rfl, rfl⟩ := crD_inj e1
    rw [Rule.d_inj e2, coD_inj e3]
    exact q
  · intro q
    exact ⟨room, pause, rule, cs, rfl, hc, hr, hk, q⟩
theorem W_ticks_i {room pause : Int} {rule : Rule} {cs : List Int} {P : DD → Prop} (hc : CrOk room pause) (hr : rule.ok) (hk : CosOk cs) : W_ticks [.va (crD room pause), .va (Rule.d rule), .va (coD cs)] P ↔ P (.list ((run room pause rule sta0 cs).map tkD)) := W3_i hc hr hk
theorem W_lights_i {room pause : Int} {rule : Rule} {cs : List Int} {P : DD → Prop} (hc : CrOk room pause) (hr : rule.ok) (hk : CosOk cs) : W_lights [.va (crD room pause), .va (Rule.d rule), .va (coD cs)] P ↔ P (.list ((run room pause rule sta0 cs).map (·.light.d))) := W3_i hc hr hk
theorem W_ck_cr_i {room pause : Int} {P : DD → Prop} (hc : CrOk room pause) : W_ck_cr [.va (crD room pause)] P ↔ P .none := ⟨fun ⟨_, _, _, _, q⟩ => q, fun q => ⟨_, _, rfl, hc, q⟩⟩
theorem W_ck_ru_i {rule : Rule} {P : DD → Prop} (hc : rule.ok) : W_ck_ru [.va rule.d] P ↔ P .none := ⟨fun ⟨_, _, _, q⟩ => q, fun q => ⟨_, rfl, hc, q⟩⟩
theorem W_ck_co_i {cs : List Int} {P : DD → Prop} (hc : CosOk cs) : W_ck_co [.va (coD cs)] P ↔ P .none := ⟨fun ⟨_, _, _, q⟩ => q, fun q => ⟨_, rfl, hc, q⟩⟩
end Lr
namespace Lr
open PySem Ab
def W_draw : Wt := fun as P => ∃ ns many, as = [.sc ns, .tw, .va (.int many)] ∧ 0 < many ∧ many ≤ 1000 ∧ ∀ n, 0 ≤ n → n < many → P (.int n)
def W_pick : Wt := fun as P => ∃ ns xs, as = [.sc ns, .tw, .va (.list xs)] ∧ xs ≠ [] ∧ xs.length ≤ 1000 ∧ ∀ x ∈ xs, P x
def W_dcross : Wt := fun as P => ∃ ns, as = [.sc ns, .tw] ∧ ∀ room pause, CrOk room pause → P (crD room pause)
def W_drule : Wt := fun as P => ∃ ns, as = [.sc ns, .tw] ∧ ∀ rule : Rule, rule.ok → P rule.d
def W_dcom : Wt := fun as P => ∃ ns most, as = [.sc ns, .tw, .va (.int most)] ∧ 0 ≤ most ∧ most ≤ 40 ∧ ∀ cs : List Int, (cs.length : Int) ≤ most → (∀ c ∈ cs, ComOk c) → P (coD cs)
theorem W_draw_i {ns : List Int} {many : Int} {P : DD → Prop} (h0 : 0 < many) (h1 : many ≤ 1000) : W_draw [.sc ns, .tw, .va (.int many)] P ↔ ∀ n, 0 ≤ n → n < many → P (.int n) :=
  ⟨fun ⟨_, _, e, _, _, q⟩ => by cases e; exact q, fun q => ⟨_, _, rfl, h0, h1, q⟩⟩
theorem W_draw_2 {ns : List Int} {P : DD → Prop} : W_draw [.sc ns, .tw, .va (.int 2)] P ↔ ∀ n, 0 ≤ n → n < 2 → P (.int n) := W_draw_i (by decide) (by decide)
theorem W_draw_3 {ns : List Int} {P : DD → Prop} : W_draw [.sc ns, .tw, .va (.int 3)] P ↔ ∀ n, 0 ≤ n → n < 3 → P (.int n) := W_draw_i (by decide) (by decide)
theorem W_draw_4 {ns : List Int} {P : DD → Prop} : W_draw [.sc ns, .tw, .va (.int 4)] P ↔ ∀ n, 0 ≤ n → n < 4 → P (.int n) := W_draw_i (by decide) (by decide)
theorem W_draw_8 {ns : List Int} {P : DD → Prop} : W_draw [.sc ns, .tw, .va (.int 8)] P ↔ ∀ n, 0 ≤ n → n < 8 → P (.int n) := W_draw_i (by decide) (by decide)
theorem W_draw_9 {ns : List Int} {P : DD → Prop} : W_draw [.sc ns, .tw, .va (.int 9)] P ↔ ∀ n, 0 ≤ n → n < 9 → P (.int n) := W_draw_i (by decide) (by decide)
theorem W_pick_i {ns : List Int} {x : DD} {xs : List DD} {P : DD → Prop} (h : (x :: xs).length ≤ 1000) : W_pick [.sc ns, .tw, .va (.list (x :: xs))] P ↔ ∀ y ∈ x :: xs, P y :=
  ⟨fun ⟨_, _, e, _, _, q⟩ => by cases e; exact q, fun q => ⟨_, _, rfl, by simp, h, q⟩⟩
theorem W_dcross_i {ns : List Int} {P : DD → Prop} : W_dcross [.sc ns, .tw] P ↔ ∀ room pause, CrOk room pause → P (crD room pause) := ⟨fun ⟨_, _, q⟩ => q, fun q => ⟨_, rfl, q⟩⟩
theorem W_drule_i {ns : List Int} {P : DD → Prop} : W_drule [.sc ns, .tw] P ↔ ∀ rule : Rule, rule.ok → P rule.d := ⟨fun ⟨_, _, q⟩ => q, fun q => ⟨_, rfl, q⟩⟩
theorem W_dcom_i {ns : List Int} {most : Int} {P : DD → Prop} (h0 : 0 ≤ most) (h1 : most ≤ 40) : W_dcom [.sc ns, .tw, .va (.int most)] P ↔ ∀ cs : List Int, (cs.length : Int) ≤ most → (∀ c ∈ cs, ComOk c) → P (coD cs) :=
  ⟨fun ⟨_, _, e, _, _, q⟩ => by cases e; exact q, fun q => ⟨_, _, rfl, h0, h1, q⟩⟩
theorem W_dcom_40 {ns : List Int} {P : DD → Prop} : W_dcom [.sc ns, .tw, .va (.int 40)] P ↔ ∀ cs : List Int, CosOk cs → P (coD cs) := by
  rw [W_dcom_i (by decide) (by decide)]
  exact ⟨fun h cs hc => h cs (by have := hc.1; omega) hc.2, fun h cs h1 h2 => h cs ⟨by omega, h2⟩⟩
theorem wi_asked {P : DD → Prop} : dIn false (.str (Str.ofString "asked")) (.tuple [.str (Str.ofString "clock"), .str (Str.ofString "gap")]) P ↔ P (.bool false) := by
  have e : inD (.str (Str.ofString "asked")) [.str (Str.ofString "clock"), .str (Str.ofString "gap")] = false := by decide +kernel
  constructor
  · rintro ⟨ds, h, _, _, q⟩
    rcases h with h | h <;> cases h
    rw [if_neg Bool.false_ne_true, e] at q
    exact q
  · intro q
    exact ⟨_, .inr rfl, rfl, rfl, by rw [if_neg Bool.false_ne_true, e]; exact q⟩
theorem wi_clock {P : DD → Prop} : dIn false (.str (Str.ofString "clock")) (.tuple [.str (Str.ofString "clock"), .str (Str.ofString "gap")]) P ↔ P (.bool true) := by
  have e : inD (.str (Str.ofString "clock")) [.str (Str.ofString "clock"), .str (Str.ofString "gap")] = true := by decide +kernel
  constructor
  · rintro ⟨ds, h, _, _, q⟩
    rcases h with h | h <;> cases h
    rw [if_neg Bool.false_ne_true, e] at q
    exact q
  · intro q
    exact ⟨_, .inr rfl, rfl, rfl, by rw [if_neg Bool.false_ne_true, e]; exact q⟩
theorem wi_due {P : DD → Prop} : dIn false (.str (Str.ofString "due")) (.tuple [.str (Str.ofString "clock"), .str (Str.ofString "gap")]) P ↔ P (.bool false) := by
  have e : inD (.str (Str.ofString "due")) [.str (Str.ofString "clock"), .str (Str.ofString "gap")] = false := by decide +kernel
  constructor
  · rintro ⟨ds, h, _, _, q⟩
    rcases h with h | h <;> cases h
    rw [if_neg Bool.false_ne_true, e] at q
    exact q
  · intro q
    exact ⟨_, .inr rfl, rfl, rfl, by rw [if_neg Bool.false_ne_true, e]; exact q⟩
theorem wi_empty {P : DD → Prop} : dIn false (.str (Str.ofString "empty")) (.tuple [.str (Str.ofString "clock"), .str (Str.ofString "gap")]) P ↔ P (.bool false) := by
  have e : inD (.str (Str.ofString "empty")) [.str (Str.ofString "clock"), .str (Str.ofString "gap")] = false := by decide +kernel
  constructor
  · rintro ⟨ds, h, _, _, q⟩
    rcases h with h | h <;> cases h
    rw [if_neg Bool.false_ne_true, e] at q
    exact q
  · intro q
    exact ⟨_, .inr rfl, rfl, rfl, by rw [if_neg Bool.false_ne_true, e]; exact q⟩
theorem wi_gap {P : DD → Prop} : dIn false (.str (Str.ofString "gap")) (.tuple [.str (Str.ofString "clock"), .str (Str.ofString "gap")]) P ↔ P (.bool true) := by
  have e : inD (.str (Str.ofString "gap")) [.str (Str.ofString "clock"), .str (Str.ofString "gap")] = true := by decide +kernel
  constructor
  · rintro ⟨ds, h, _, _, q⟩
    rcases h with h | h <;> cases h
    rw [if_neg Bool.false_ne_true, e] at q
    exact q
  · intro q
    exact ⟨_, .inr rfl, rfl, rfl, by rw [if_neg Bool.false_ne_true, e]; exact q⟩
theorem wi_longer {P : DD → Prop} : dIn false (.str (Str.ofString "longer")) (.tuple [.str (Str.ofString "clock"), .str (Str.ofString "gap")]) P ↔ P (.bool false) := by
  have e : inD (.str (Str.ofString "longer")) [.str (Str.ofString "clock"), .str (Str.ofString "gap")] = false := by decide +kernel
  constructor
  · rintro ⟨ds, h, _, _, q⟩
    rcases h with h | h <;> cases h
    rw [if_neg Bool.false_ne_true, e] at q
    exact q
  · intro q
    exact ⟨_, .inr rfl, rfl, rfl, by rw [if_neg Bool.false_ne_true, e]; exact q⟩
theorem at_ex {α : Type} {xs : List α} {k : Int} (h0 : 0 ≤ k) (h : k < xs.length) : ∃ x, L2.atI xs k = some x ∧ x ∈ xs := by
  obtain ⟨n, rfl⟩ := Int.eq_ofNat_of_zero_le h0
  have hn : n < xs.length := by omega
  exact ⟨xs[n], L2.atI_nat (List.getElem?_eq_getElem hn), List.getElem_mem hn⟩
theorem mulOk1 (x : Int) : IntMulOk x 1103515245 := (show L2.CMul x 1103515245 from .inr (by decide)).ok
theorem mulOk2 (x : Int) : IntMulOk 7919 x := (show L2.CMul 7919 x from .inl (by decide)).ok
theorem mulOk3 : IntMulOk ((10 : Int) ^ (60 : Int).toNat) ((10 : Int) ^ (60 : Int).toNat) := by
  have e : (60 : Int).toNat = 60 := rfl
  rw [e]
  exact (L2.wide_mul (a := 200) (b := 200) (by decide) (by decide) (by decide) (by decide) (by decide)).ok
theorem powOk18 : L2.CPow 10 18 := ⟨by decide, by decide, by decide⟩
theorem powOk60 : L2.CPow 10 60 := ⟨by decide, by decide, by decide⟩
end Lr
namespace Lr
open PySem Ab
theorem ex_tw0 {R : Prop} : (∃ (p : Nat) (q : Int), some (Sl.ow [PyData.int 0, PyData.int 0]) = some (Sl.ow [.int (p : Int), .int q]) ∧ R) ↔ R := ⟨fun ⟨_, _, _, r⟩ => r, fun r => ⟨0, 0, rfl, r⟩⟩
theorem dIx_cr0 {r p : Int} {P : DD → Prop} : dIx (crD r p) (.int 0) P ↔ P (.int r) := by
  unfold crD
  rw [dIx_t]
  exact ⟨fun ⟨d, e, q⟩ => by cases e; exact q, fun q => ⟨_, rfl, q⟩⟩
theorem dIx_cr1 {r p : Int} {P : DD → Prop} : dIx (crD r p) (.int 1) P ↔ P (.int p) := by
  unfold crD
  rw [dIx_t]
  exact ⟨fun ⟨d, e, q⟩ => by cases e; exact q, fun q => ⟨_, rfl, q⟩⟩
def lights (room pause : Int) (rule : Rule) (cs : List Int) : List Lt := (run room pause rule sta0 cs).map (·.light)
def linesOf (room pause : Int) (rule : Rule) (cs : List Int) : List (Int × Int) := (run room pause rule sta0 cs).map fun r => (r.s.a, r.s.b)
def prD (p : Int × Int) : DD := .tuple [.int p.1, .int p.2]
theorem lights_len {room pause : Int} {rule : Rule} {cs : List Int} : (lights room pause rule cs).length = cs.length := by rw [lights, List.length_map, run_len]
theorem W_lights_l {room pause : Int} {rule : Rule} {cs : List Int} {P : DD → Prop} (hc : CrOk room pause) (hr : rule.ok) (hk : CosOk cs) : W_lights [.va (crD room pause), .va (Rule.d rule), .va (coD cs)] P ↔ P (.list ((lights room pause rule cs).map Lt.d)) := by
  rw [W_lights_i hc hr hk, lights, List.map_map]
  exact Iff.rfl
theorem sh_lt {n : Nat} (l : Lt) : Sh n l.d := by
  cases l
  · exact Sh.int
  · exact Sh.non
theorem sh_lts (ls : List Lt) : Sh 2 (.list (ls.map Lt.d)) := Sh.list (Sh.map fun x _ => sh_lt x)
theorem dNe_same {x y : DD} {n : Nat} {P : DD → Prop} (h : Sh n x) (e : x = y) (q : P (.bool false)) (hn : n ≤ 64 := by decide) : dNe x y P := by
  subst e
  exact ⟨h.ok hn, h.ok hn, by rw [eqv_same h]; exact q⟩
theorem dEq_same {x y : DD} {n : Nat} {P : DD → Prop} (h : Sh n x) (e : x = y) (q : P (.bool true)) (hn : n ≤ 64 := by decide) : dEq x y P := by
  subst e
  exact ⟨h.ok hn, h.ok hn, by rw [eqv_same h]; exact q⟩
end Lr
namespace Lr
open PySem Ab
theorem CosOk.take {cs : List Int} (h : CosOk cs) (k : Nat) : CosOk (cs.take k) := ⟨by rw [List.length_take]; have := h.1; omega, fun c hc => h.2 c (List.mem_of_mem_take hc)⟩
end Lr
namespace Lr
open PySem Ab L2
/-- the light that a state shows -/
def lastL (s : Sta) : Lt := if s.left = 0 then .r s.road else .dark
theorem tick_light {room pause c : Int} {rule : Rule} {s : Sta} : (tick room pause rule s c).light = lastL (tick room pause rule s c).s := rfl
structure Mid (room pause : Int) (rule : Rule) (cs : List Int) (n : Nat) (s : Sta) (rest : List Int) : Prop where
  eq : ∃ rs, run room pause rule sta0 cs = rs ++ run room pause rule s rest ∧ rs.length = n ∧ ((n = 0 ∧ s = sta0) ∨ ∃ rs' r, rs = rs' ++ [r] ∧ r.s = s ∧ r.light = lastL s)
  ok : StaOk room s
  com : ∀ c ∈ rest, ComOk c
variable {room pause : Int} {rule : Rule} {cs rest : List Int} {n : Nat} {s : Sta} {c : Int}
theorem Mid.step (hc : CrOk room pause) (h : Mid room pause rule cs n s (c :: rest)) : Mid room pause rule cs (n + 1) (tick room pause rule s c).s rest := by
  obtain ⟨rs, e1, e2, _⟩ := h.eq
  refine ⟨⟨rs ++ [tick room pause rule s c], by rw [e1, List.append_assoc]; rfl, by rw [List.length_append, e2]; rfl, .inr ⟨rs, _, rfl, rfl, tick_light⟩⟩, tick_ok hc h.ok (h.com c List.mem_cons_self), fun d hd => h.com d (List.mem_cons_of_mem _ hd)⟩
theorem Mid.at (h : Mid room pause rule cs n s (c :: rest)) (f : Res → DD) : atI ((run room pause rule sta0 cs).map f) (n : Int) = some (f (tick room pause rule s c)) := by
  obtain ⟨rs, e1, e2, _⟩ := h.eq
  refine atI_nat ?_
  rw [e1, List.map_append, List.getElem?_append_right (by rw [List.length_map]; omega), List.length_map, e2, Nat.sub_self]
  rfl
theorem ls_map : (linesOf room pause rule cs).map prD = (run room pause rule sta0 cs).map fun r => lnD r.s.a r.s.b := by rw [linesOf, List.map_map]; rfl
theorem Mid.ls (h : Mid room pause rule cs n s (c :: rest)) {P : DD → Prop} : dIx (.list ((linesOf room pause rule cs).map prD)) (.int (n : Int)) P ↔ P (lnD (tick room pause rule s c).s.a (tick room pause rule s c).s.b) := by
  rw [dIx_l, ls_map, h.at]
  exact ⟨fun ⟨d, e, q⟩ => by cases e; exact q, fun q => ⟨_, rfl, q⟩⟩
end Lr
namespace Ab
open PySem PySem.Spec PyProof.Rows L2
section
variable {X : Cx} {K : KW}
variable {e a b c : Expr} {pos p : Pos} {α β γ : AEx}
/-- a list of one's own as a settled one, in a test -/
def aBor (i : Nat) (τ : ATx) : ATx := fun env P => ∃ ds, env[i]? = some (.ow ds) ∧ τ (env.set i (.va (.list ds))) P
theorem jt_bor (i : Nat) {τ : ATx} (h : JT X e τ) : JT X e (aBor i τ) := by
  obtain ⟨t, a1, a2⟩ := h.ex
  refine ⟨t, a1, fun B F0 M T env σ H F R0 P p Q q => ?_⟩
  obtain ⟨ds, p1, p2⟩ := p
  have R0' : R (kw X) B F M T env σ H F := { R0 with f0 := Sub.refl F, new := fun _ _ h => .inl h }
  obtain ⟨F1, R1⟩ := R0'.frz p1
  exact a2 B F M T _ σ H F1 R1 P p2 Q fun b H' F' s pb => q b H' F ⟨fun a o z => s.sub a o (s.ext a o (R1.f0 a o z)), Sub.refl F, fun _ _ h => .inl h, s.keep, s.tc⟩ pb
end
end Ab
namespace Ab
open PySem PySem.Spec PyProof.Rows L2
end Ab
namespace Ab
open PySem PySem.Spec PyProof.Rows L2
section
variable {X : Cx} {pins : List (Addr × Obj)} {σ : L2.St} {H F : Hp} {s : Shared} {a b : Addr}
def KIs (X : Cx) (H : Hp) (k : NestedKey) (b : Addr) : Prop := ∀ pins σ s, Inv X pins σ H s → (nestedKind X.prog X.w).is s.heap k b
structure DOk (X : Cx) (H : Hp) (a : Addr) (o : Obj) (xs : List (NestedKey × Addr × Value)) : Prop where
  at_ : H a = some (KDo a o)
  ob : DO (kw X) a o xs
  ks : ∀ x ∈ xs, KIs X H x.1 x.2.1
theorem DOk.ht {o : Obj} {xs : List (NestedKey × Addr × Value)} (h : DOk X H a o xs) (I : Inv X pins σ H s) : s.heap.get? a = some o := by
  have := I.hok a _ h.at_
  exact this.1
theorem DOk.len {o : Obj} {xs : List (NestedKey × Addr × Value)} (h : DOk X H a o xs) : xs.length ≤ sizeLine := h.ob.2.2.2.2
end
end Ab
namespace Ab
open PySem PySem.Spec PyProof.Rows L2
section
variable {X : Cx} {e a b c : Expr} {es : List Expr} {pos p : Pos} {α β γ : AEx} {τ υ : ATx} {x y : Str} {K : KW}
theorem Stp.mod {T : Tws K} {H F H' F' : Hp} {p : Addr} {o : HO} (s : Stp T H F H' F') (b : Bs T H F) (hH : H p = none) (hF : F' p = none) (hm : H' p = none ∨ Mut (H' p)) : Stp T H F (upd H' p o) F' := by
  have nt : ∀ a, T a → a ≠ p := fun a t z => by
    obtain ⟨_, w⟩ := Tws.has (b.tw a t).2
    rw [z, hH] at w; cases w
  refine ⟨fun a u e => ?_, s.ext, s.new, fun a u e t => ?_, fun a t => ?_⟩
  · have : a ≠ p := fun z => by rw [z, hF] at e; cases e
    rw [upd_ne this]; exact s.sub a u e
  · have : a ≠ p := fun z => by rw [z, hH] at e; cases e
    rw [upd_ne this]; exact s.keep a u e t
  · exact Tws.mono (s.tc a t) (nt a t) hm
theorem R.fresh {B F0 : Hp} {M T : Tws K} {env : AE} {σ : L2.St} {H F : Hp} (r : R K B F0 M T env σ H F) {a : Addr} (h : H a = none) : B a = none ∧ ¬ T a ∧ ∀ (j : Nat) g, env[j]? = some (.og g) → σ[j]? ≠ some (some (.ref a)) := by
  refine ⟨r.toGd.dom h, fun t => ?_, fun j g hj hσ => ?_⟩
  · obtain ⟨_, z⟩ := Tws.has (r.toGd.tw a t).2.1
    rw [h] at z; cases z
  · obtain ⟨b, u, e1, e2, _⟩ := r.og j g hj
    rw [hσ] at e1
    cases Option.some.inj e1
    rw [h] at e2; cases e2
theorem stp_none {T : Tws K} {H F H' F' : Hp} (s : Stp T H F H' F') {a : Addr} {o : HO} (h : F a = none) (g : H a = some o) : F' a = none := by
  cases e : F' a with
  | none => rfl
  | some u =>
    rcases s.new a u e with z | z
    · rw [h] at z; cases z
    · rw [g] at z; cases z
/-- x = y, y a thing of one's own that is handed on -/
theorem R.off {B F0 : Hp} {M T : Tws K} {env : AE} {σ : L2.St} {H F : Hp} (j : Nat) (r : R K B F0 M T env σ H F) : R K B F0 M T (env.set j .un) σ H F := by
  have at_ : ∀ {k : Nat} {s : Sl}, (env.set j .un)[k]? = some s → s ≠ .un → j ≠ k ∧ env[k]? = some s := fun {k s} e n => by
    by_cases q : j = k
    · subst q
      have hl : j < env.length := by
        have := (List.getElem?_eq_some_iff.mp e).1
        rwa [List.length_set] at this
      rw [List.getElem?_set_self hl] at e
      exact absurd (Option.some.inj e).symm n
    · rw [List.getElem?_set_ne q] at e
      exact ⟨q, e⟩
  refine ⟨r.toGd, by rw [List.length_set]; exact r.len, fun k d e => ?_, fun k ds e => ?_, fun k kk e => ?_, fun k ns e => ?_, fun k m ds es a h1 h2 h3 h4 => ?_, fun k φ e => ?_⟩
  case refine_6 =>
    obtain ⟨h2, h3, _⟩ := r.lnE (s' := .un) (fun φ z => by cases z) (.inl fun g z => by cases z) k φ e
    exact ⟨h2, h3⟩
  · exact r.va k d (at_ e (by intro z; cases z)).2
  · exact r.og k ds (at_ e (by intro z; cases z)).2
  · exact r.ti k kk (at_ e (by intro z; cases z)).2
  · exact r.sc k ns (at_ e (by intro z; cases z)).2
  · exact r.di k m ds es a (at_ h1 (by intro z; cases z)).2 (at_ h2 (by intro z; cases z)).2 h3 h4
end
end Ab
namespace RZ
open PySem
open PySem.Sem (wp)
section
variable {prog : Program} {w : World} {A : Around} {E : Value → Shared → Prop} {s : Shared}
structure Ap1 (z TI TO i0 l0 : Addr) : Prop where
  z_TO : z ≠ TO
  z_i0 : z ≠ i0
  TO_z : TO ≠ z
  TO_i0 : TO ≠ i0
  i0_z : i0 ≠ z
  i0_TO : i0 ≠ TO
  TI_z : TI ≠ z
  TI_TO : TI ≠ TO
  TI_i0 : TI ≠ i0
  l0_z : l0 ≠ z
  l0_TO : l0 ≠ TO
  l0_i0 : l0 ≠ i0
structure Ap2 (z TI TO i0 i1 l0 l1 : Addr) : Prop where
  z_TO : z ≠ TO
  z_i0 : z ≠ i0
  z_i1 : z ≠ i1
  TO_z : TO ≠ z
  TO_i0 : TO ≠ i0
  TO_i1 : TO ≠ i1
  i0_z : i0 ≠ z
  i0_TO : i0 ≠ TO
  i0_i1 : i0 ≠ i1
  i1_z : i1 ≠ z
  i1_TO : i1 ≠ TO
  i1_i0 : i1 ≠ i0
  TI_z : TI ≠ z
  TI_TO : TI ≠ TO
  TI_i0 : TI ≠ i0
  TI_i1 : TI ≠ i1
  l0_z : l0 ≠ z
  l0_TO : l0 ≠ TO
  l0_i0 : l0 ≠ i0
  l0_i1 : l0 ≠ i1
  l1_z : l1 ≠ z
  l1_TO : l1 ≠ TO
  l1_i0 : l1 ≠ i0
  l1_i1 : l1 ≠ i1
end
end RZ
namespace Ab
open PySem PySem.Spec PyProof.Rows L2 RZ
theorem ap1 (n l0 : Nat) (h : l0 < n) : Ap1 (n + 3) (n + 1) (n + 2) (n + 0) l0 := by constructor <;> (show (_ : Nat) ≠ _; omega)
theorem ap2 (n l0 l1 : Nat) (h : l0 < n) (h' : l1 < n) : Ap2 (n + 4) (n + 2) (n + 3) (n + 0) (n + 1) l0 l1 := by constructor <;> (show (_ : Nat) ≠ _; omega)
end Ab
namespace Ab
open PySem PySem.Spec PyProof.Rows L2
end Ab
namespace Ab
open PySem PySem.Spec PyProof.Rows L2
end Ab
namespace Ab
open PySem PySem.Spec PyProof.Rows L2
theorem units65 {k : Nat} {A : Around} (r : Room k A) : A.units + 65 < cLine := by have := r.un; omega
inductive RefsOf (K : KW) : List Addr → List DD → Prop
  | nil : RefsOf K [] []
  | cons {a : Addr} {as : List Addr} {d : DD} {ds : List DD} : (∀ F, Rp K F (.ref a) d) → RefsOf K as ds → RefsOf K (a :: as) (d :: ds)
theorem RefsOf.rp {K : KW} {F : Hp} : ∀ {as : List Addr} {ds : List DD}, RefsOf K as ds → RpAll K F (as.map V.ref) ds
  | _, _, .nil => .nil
  | _, _, .cons h t => .cons (h F) (RefsOf.rp t)
end Ab
namespace Ab
open PySem PySem.Spec PyProof.Rows L2
theorem pe_imp {X : Cx} {e : Expr} {t t' : TE} (h : PE X e t) (i : ∀ σ H Q, t' σ H Q → t σ H Q) : PE X e t' := ⟨fun pins s σ H Q I q => h.run pins s σ H Q I (i σ H Q q)⟩
theorem ps_imp {X : Cx} {e : Stmt} {t t' : TS} (h : PS X e t) (i : ∀ D σ H, t' D σ H → t D σ H) : PS X e t' := ⟨fun pins s σ H Q I q => h.run pins s σ H Q I (i Q σ H q)⟩
theorem pss_imp {X : Cx} {e : List Stmt} {t t' : TS} (h : PSs X e t) (i : ∀ D σ H, t' D σ H → t D σ H) : PSs X e t' := ⟨fun pins s σ H Q I q => h.run pins s σ H Q I (i Q σ H q)⟩
abbrev AXx := AE → (DD → Prop) → (Addr → Prop) → Prop
abbrev ASxx := AEnds → (Addr → AE → Prop) → AE → Prop
abbrev WtX := AE → (DD → Prop) → (Addr → Prop) → Prop
/-- a def that returns or raises -/
def spX (K : KW) (n : Nat) (W : WtX) : Sp := fun vs H Q E => ∃ (F : Hp) (T : Tws K) (as : AE) (P : DD → Prop) (PE : Addr → Prop), Bs T H F ∧ Paired (Arg K T F) vs as ∧ as.length = n ∧ W as P PE ∧
  (∀ v d H' F', Stp T H F H' F' → Rp K F' v d → P d → Q v H') ∧ ∀ C H' F', Stp T H F H' F' → PE C → E (.ref C) none H'
structure ClX (P : Program) (w : World) (K : PySem.W.Frag) (mg : Str → Option Value) (base : Heap) (k : Nat) (x : Str) (n : Nat) (W : WtX) : Prop where
  ex : ∃ (f : Addr) (fd : FuncData) (ps : List Str), FnOk P w K mg base (L2.CX P w) k f fd ps (spX ⟨K, P, w⟩ n W) ∧ mg x = some (.ref f) ∧ PySem.W.keepIn K (.ref f) = true ∧ Binds K fd ps []
section
variable {P : Program} {w : World} {K : PySem.W.Frag} {mg : Str → Option Value} {base : Heap} {j k : Nat} {x : Str} {n : Nat}
theorem ClX.mono {W : WtX} (h : ClX P w K mg base j x n W) (l : j ≤ k) : ClX P w K mg base k x n W := by
  obtain ⟨f, fd, ps, h1, h2⟩ := h.ex
  exact ⟨f, fd, ps, h1.mono l, h2⟩
theorem ClX.imp {W W' : WtX} (h : ClX P w K mg base k x n W) (e : ∀ as P PE, W' as P PE → W as P PE) : ClX P w K mg base k x n W' := by
  obtain ⟨f, fd, ps, h1, h2⟩ := h.ex
  exact ⟨f, fd, ps, h1.imp fun vs H Q E ⟨F, T, as, P, PE, a, b, c, d, q⟩ => ⟨F, T, as, P, PE, a, b, c, e _ _ _ d, q⟩, h2⟩
end
/-- the readings: what may happen, told by the words -/
def canEX (K : KW) (α : AXx) (W : WX) : TE := fun σ H Q => ∃ B F0 M T env F, R K B F0 M T env σ H F ∧ ∃ P PE, α env P PE ∧ (∀ v d H' F', Stp T H F H' F' → Rp K F' v d → P d → Q v H') ∧ ∀ C H' F', Stp T H F H' F' → PE C → W (.ref C) none σ H'
def canSX (K : KW) (a : ASxx) (W : WX) : TS := fun D σ H => ∃ B F0 M T env F, R K B F0 M T env σ H F ∧ ∃ A PE, Lk K B F0 M A D ∧ (∀ T C env σ H F, R K B F0 M T env σ H F → PE C env → W (.ref C) none σ H) ∧ a A PE env
structure JEX (X : Cx) (e : Expr) (α : AXx) : Prop where ex : ∀ W, Takes X W → PE X e (canEX (kw X) α W)
structure JSX (X : Cx) (s : Stmt) (a : ASxx) : Prop where ex : ∀ W, Takes X W → PS X s (canSX (kw X) a W)
structure JSXs (X : Cx) (s : List Stmt) (a : ASxx) : Prop where ex : ∀ W, Takes X W → PSs X s (canSX (kw X) a W)
section
variable {X : Cx} {e a b c : Expr} {es : List Expr} {pos p : Pos} {x y : Str} {k n : Nat} {s : Stmt} {ss : List Stmt}
theorem JE.toX {α : AEx} (h : JE X e α) : JEX X e (fun env P _ => α env P) := ⟨fun W tk => by
  obtain ⟨t, h1, h2⟩ := h.ex
  exact pe_imp h1 fun σ H Q ⟨B, F0, M, T, env, F, R0, P, PE, p, q, _⟩ => h2 B F0 M T env σ H F R0 P p Q q⟩
theorem JS.toX {a : ASx} (h : JS X s a) : JSX X s (fun A _ env => a A env) := ⟨fun W tk => by
  obtain ⟨t, h1, h2⟩ := h.ex
  exact ps_imp h1 fun D σ H ⟨B, F0, M, T, env, F, R0, A, PE, l, _, p⟩ => h2 B F0 M T env σ H F R0 A D l p⟩
theorem JSs.toX {a : ASx} (h : JSs X ss a) : JSXs X ss (fun A _ env => a A env) := ⟨fun W tk => by
  obtain ⟨t, h1, h2⟩ := h.ex
  exact pss_imp h1 fun D σ H ⟨B, F0, M, T, env, F, R0, A, PE, l, _, p⟩ => h2 B F0 M T env σ H F R0 A D l p⟩
def aSeqX (u v : ASxx) : ASxx := fun A PE env => u { A with nx := v A PE } PE env
theorem jsx_cons {u v : ASxx} (h : JSX X s u) (g : JSXs X ss v) : JSXs X (s :: ss) (aSeqX u v) := ⟨fun W tk => by
  refine pss_imp (pss_cons (h.ex W tk) (g.ex W tk)) fun D σ H ⟨B, F0, M, T, env, F, R0, A, PE, l, xc, p⟩ => ?_
  exact ⟨B, F0, M, T, env, F, R0, { A with nx := v A PE }, PE, l.seq fun T env σ H F r q => ⟨B, F0, M, T, env, F, r, A, PE, l, xc, q⟩, xc, p⟩⟩
theorem jsx_one {u : ASxx} (h : JSX X s u) : JSXs X [s] u := ⟨fun W tk => pss_one (h.ex W tk)⟩
theorem jsx_nil : JSXs X [] (fun A _ env => A.nx env) := jss_nil.toX
def aIfX (τ : ATx) (u v : ASxx) : ASxx := fun A PE env => τ env fun k => (k = true → u A PE env) ∧ (k = false → v A PE env)
theorem js_ifX {sa sb : List Stmt} {τ : ATx} {u v : ASxx} (h : JT X c τ) (ha : JSXs X sa u) (hb : JSXs X sb v) : JSX X (.If c sa sb pos) (aIfX τ u v) := ⟨fun W tk => by
  obtain ⟨t, h1, h2⟩ := h.ex
  refine ps_imp (ps_if h1 (ha.ex W tk) (hb.ex W tk)) fun D σ H ⟨B, F0, M, T, env, F, R0, A, PE, l, xc, p⟩ => ?_
  refine h2 B F0 M T env σ H F R0 _ p _ fun k H1 F1 s1 p1 => ?_
  cases k with
  | true => exact ⟨B, F0, M, T, env, F1, R0.step s1, A, PE, l, xc, p1.1 rfl⟩
  | false => exact ⟨B, F0, M, T, env, F1, R0.step s1, A, PE, l, xc, p1.2 rfl⟩⟩
/-- an own exception class, without an __init__ of its own -/
structure ExcF (K : PySem.W.Frag) (mg : Str → Option Value) (x : Str) (C : Addr) : Prop where
  mkI : PySem.W.excIn K C [.type "ValueError", .type "Exception", .type "BaseException", .type "object"] "ValueError.__new__" = true
  g : mg x = some (.ref C)
  kp : PySem.W.keepIn K (.ref C) = true
  sb : PySem.W.subIn K (.ref C) (.type "BaseException") = some true
  ty : PySem.W.typeIn K (.ref C) = some (.type "type")
/-- raise X("..") -/
theorem js_raiseX {C : Addr} {m : Str} {j : Nat} {p2 pos' : Pos} (hc : X.calm = true) (F : ExcF X.K X.mg x C) (hg : Gl X x := by rfl) (hdb : (x == ("__debug__" : Str)) = false := by decide) : JSX X (.Raise (some (.Call (.Name x p) [.Constant (.str m) j p2] [] pos')) none pos) (fun _ PE env => PE C env) := ⟨fun W tk =>
  ps_imp (ps_raise hc tk (pmk_own PySem.F.excBase_ValueError F.mkI F.g F.kp (raises_own F.sb F.ty) hg hdb)) fun D σ H ⟨B, F0, M, T, env, F, R0, A, PE, l, xc, p⟩ => xc T C env σ H F R0 p⟩
end
end Ab
namespace Ab
open PySem PySem.Spec PyProof.Rows L2
end Ab
namespace Ab
open PySem PySem.Spec PyProof.Rows L2
end Ab
namespace Ab
open PySem PySem.Spec PyProof.Rows L2
/-- a def of the text that hands a new list back -/
structure ClO (P : Program) (w : World) (K : PySem.W.Frag) (mg : Str → Option Value) (base : Heap) (k : Nat) (x : Str) (n : Nat) (W : WtO) : Prop where
  ex : ∃ (f : Addr) (fd : FuncData) (ps : List Str), FnOk P w K mg base CX0 k f fd ps (spAO ⟨K, P, w⟩ n W) ∧ mg x = some (.ref f) ∧ PySem.W.keepIn K (.ref f) = true ∧ Binds K fd ps []
theorem ClO.mono {P : Program} {w : World} {K : PySem.W.Frag} {mg : Str → Option Value} {base : Heap} {k j : Nat} {x : Str} {n : Nat} {W : WtO} (h : ClO P w K mg base k x n W) (l : k ≤ j) : ClO P w K mg base j x n W := by
  obtain ⟨f, fd, ps, h1, h2⟩ := h.ex
  exact ⟨f, fd, ps, h1.mono l, h2⟩
theorem ClO.cl {P : Program} {w : World} {K : PySem.W.Frag} {mg : Str → Option Value} {base : Heap} {k : Nat} {x : Str} {n : Nat} {W : WtO} {W' : Wt} (h : ClO P w K mg base k x n W) (e : ∀ as P, W' as P → W as fun ds => P (.list ds)) : Cl P w K mg base k x n W' := by
  obtain ⟨f, fd, ps, h1, h2⟩ := h.ex
  exact ⟨f, fd, ps, h1.imp fun vs H Q E ⟨F, T, as, P, a, b, c, d, q⟩ => spAO_spA (E := E) ⟨F, T, as, P, a, b, c, e _ _ d, q⟩, h2⟩
theorem def_okO {P : Program} {w : World} {K : PySem.W.Frag} {mg : Str → Option Value} {base : Heap} {k : Nat} {x qual : Str} {st : Stmt} {f : Addr} {fd : FuncData} {N ps : List Str} {W : WtO} (us : AE) (F : Fun K x qual st f fd) (S : FnScope N ps (defScope st))
    (gm : mg x = some (.ref f)) (hb : Binds K fd ps [])
    (hbody : ∃ a : ASx, (∀ (cdv : Value) (A : Around) (outer : List Env) (s : Shared) (H : Hp) (E : XK), Room k (A.deeper (envOfC qual (defScope st) s.heap.objs.size f cdv)) → JSs (cxOf CX0 P w K mg base N qual (defScope st) f cdv A outer s H E).nox (defBody st) a) ∧
      ∀ as Q, as.length = ps.length → W as Q → a { nx := fun _ => False, rt := fun _ => False, rtO := Q } (as ++ us))
    (hus : us = List.replicate (N.length - ps.length) Sl.un := by rfl) : ClO P w K mg base (k + 1) x ps.length W :=
  ⟨f, fd, ps, def_fnO us F S hbody hus, gm, F.kp, hb⟩
def lendL (H F : Hp) (ls : List Addr) : Hp := fun x => if x ∈ ls then H x else F x
def offL (F : Hp) (ls : List Addr) : Hp := fun x => if x ∈ ls then none else F x
structure Lent {K : KW} (T : Tws K) (H F : Hp) (ls : List Addr) : Prop where
  at_ : ∀ x ∈ ls, ∃ xs, H x = some (.lst xs)
  out : ∀ x ∈ ls, F x = none ∧ ¬ T x
section
variable {K : KW} {T : Tws K} {H F H' F' : Hp} {ls : List Addr}
theorem lend_sub (l : Lent T H F ls) : Sub F (lendL H F ls) := fun a o e => by
  unfold lendL
  by_cases q : a ∈ ls
  · rw [(l.out a q).1] at e; cases e
  · rw [if_neg q]; exact e
theorem lend_bs (b : Bs T H F) (l : Lent T H F ls) : Bs T H (lendL H F ls) := by
  refine ⟨fun a o e => ?_, fun a t => ⟨?_, (b.tw a t).2⟩⟩
  · unfold lendL at e
    by_cases q : a ∈ ls
    · rw [if_pos q] at e; exact e
    · rw [if_neg q] at e; exact b.sub a o e
  · unfold lendL
    rw [if_neg fun q => (l.out a q).2 t]
    exact (b.tw a t).1
theorem lend_back (l : Lent T H F ls) (s : Stp T H (lendL H F ls) H' F') : Stp T H F H' (offL F' ls) := by
  refine ⟨fun a o e => ?_, fun a o e => ?_, fun a o e => ?_, s.keep, s.tc⟩
  · unfold offL at e
    by_cases q : a ∈ ls
    · rw [if_pos q] at e; cases e
    · rw [if_neg q] at e; exact s.sub a o e
  · unfold offL
    by_cases q : a ∈ ls
    · rw [(l.out a q).1] at e; cases e
    · rw [if_neg q]; exact s.ext a o (lend_sub l a o e)
  · unfold offL at e
    by_cases q : a ∈ ls
    · rw [if_pos q] at e; cases e
    · rw [if_neg q] at e
      rcases s.new a o e with z | z
      · unfold lendL at z
        rw [if_neg q] at z
        exact .inl z
      · exact .inr z
/-- the lists stand as they stood -/
theorem lend_kept (l : Lent T H F ls) (s : Stp T H (lendL H F ls) H' F') : ∀ x ∈ ls, H' x = H x ∧ F' x = H x := fun x hx => by
  obtain ⟨xs, e⟩ := l.at_ x hx
  have e1 : lendL H F ls x = some (.lst xs) := by unfold lendL; rw [if_pos hx]; exact e
  exact ⟨by rw [e]; exact s.keep x _ e (l.out x hx).2, by rw [e]; exact s.ext x _ e1⟩
mutual
theorem Rp.off (hl : ∀ x ∈ ls, ∃ xs, F' x = some (.lst xs)) : ∀ {v : V} (d : PyData), keyD d = true → Rp K F' v d → Rp K (offL F' ls) v d
  | _, .none, _, h => by cases h; exact .non
  | _, .bool b, _, h => by cases h; exact .bl b
  | _, .int i, _, h => by cases h; exact .int i
  | _, .str x, _, h => by cases h; exact .str x
  | _, .list ds, k, h => by simp [keyD] at k
  | _, .tuple ds, k, h => by
    cases h with
    | tup a b =>
      refine .tup ?_ (RpAll.off hl ds (by simpa [keyD] using k) b)
      have ne : ∀ {c : Addr} {u : HO}, F' c = some u → (∀ xs, u ≠ .lst xs) → offL F' ls c = some u := fun {c u} hc nm => by
        unfold offL
        have : c ∉ ls := fun z => by
          obtain ⟨xs, e⟩ := hl c z
          rw [hc] at e
          exact nm xs (Option.some.inj e)
        rw [if_neg this]; exact hc
      rcases a with (a | ⟨u, a⟩) | a
      · exact .inl (.inl (ne a fun xs z => by cases z))
      · exact .inl (.inr ⟨u, ne a fun xs z => by cases z⟩)
      · exact .inr a
  | _, .dict _, k, h => by simp [keyD] at k
theorem RpAll.off (hl : ∀ x ∈ ls, ∃ xs, F' x = some (.lst xs)) : ∀ {vs : List V} (ds : List PyData), keyDs ds = true → RpAll K F' vs ds → RpAll K (offL F' ls) vs ds
  | _, [], _, h => by cases h; exact .nil
  | _, d :: ds, k, h => by
    rw [keyDs, Bool.and_eq_true] at k
    cases h with | cons a b => exact .cons (Rp.off hl d k.1 a) (RpAll.off hl ds k.2 b)
end
/-- a new list of atoms and tuples of such -/
theorem Rp.offNew (hl : ∀ x ∈ ls, ∃ xs, F' x = some (.lst xs)) {r : Addr} {ds : List DD} (hr : r ∉ ls) (k : keyDs ds = true) (h : Rp K F' (.ref r) (.list ds)) : Rp K (offL F' ls) (.ref r) (.list ds) := by
  cases h with
  | lst a b => exact .lst (by unfold offL; rw [if_neg hr]; exact a) (RpAll.off hl ds k b)
end
end Ab
namespace Ab
open PySem PySem.Spec PyProof.Rows L2
abbrev WtL := AE → (DD → Prop) → (List DD → Prop) → Prop
def spSelf (K : KW) (n : Nat) (W : WtL) : Sp := fun vs H Q _ => ∃ (F : Hp) (T : Tws K) (φ : LnT) (v : V) (vs' : List V) (as : AE) (P : DD → Prop) (PO : List DD → Prop), vs = v :: vs' ∧ Bs T H F ∧ φ.own = false ∧ φ.at_ K H F v ∧ (∀ x ∈ φ.A, (∃ o, H x = some o) ∧ F x = none ∧ ¬ T x) ∧ Paired (Arg K T F) vs' as ∧ as.length + 1 = n ∧ W (.ln φ :: as) P PO ∧
  (∀ v d H' F', Stp T H F H' F' → Rp K F' v d → P d → Q v H') ∧ ∀ a ds H' F', Stp T H F H' F' → Rp K F' (.ref a) (.list ds) → H a = none → PO ds → Q (.ref a) H'
theorem spSelf_len {K : KW} {n : Nat} {W : WtL} : ∀ vs H Q E, spSelf K n W vs H Q E → vs.length = n := fun vs H Q E h => by
  obtain ⟨F, T, φ, v, vs', as, P, PO, rfl, _, _, _, _, h2, h3, _⟩ := h
  rw [← h3, List.length_cons, pairedLen h2]
theorem def_fnL {P : Program} {w : World} {K : PySem.W.Frag} {mg : Str → Option Value} {base : Heap} {k : Nat} {x qual : Str} {st : Stmt} {f : Addr} {fd : FuncData} {N ps : List Str} {W : WtL} (us : AE) (F : Fun K x qual st f fd) (S : FnScope N ps (defScope st))
    (hbody : ∃ a : ASx, (∀ (cdv : Value) (A : Around) (outer : List Env) (s : Shared) (H : Hp) (E : XK), Room k (A.deeper (envOfC qual (defScope st) s.heap.objs.size f cdv)) → JSs (cxOf CX0 P w K mg base N qual (defScope st) f cdv A outer s H E).nox (defBody st) a) ∧
      ∀ as Q QO, as.length = ps.length → W as Q QO → a { nx := fun _ => Q .none, rt := Q, rtO := QO } (as ++ us))
    (hus : us = List.replicate (N.length - ps.length) Sl.un := by rfl) : FnOk P w K mg base CX0 (k + 1) f fd ps (spSelf ⟨K, P, w⟩ ps.length W) := by
  refine F.ok S (fun vs H Q E h => spSelf_len vs H Q E h) (fun cdv A outer s H vs Q E hr h => ?_)
  obtain ⟨a, hb1, hb2⟩ := hbody
  obtain ⟨F1, T, φ, v0, vs', as, Pd, PO, rfl, b, hown, hat, hA, pr, hl, hw, q, qO⟩ := h
  obtain ⟨t, h1, h2⟩ := (hb1 cdv A outer s H E hr).ex
  have hvl : vs'.length = as.length := pairedLen pr
  refine ⟨t, h1, h2 H F1 T T ((.ln φ :: as) ++ us) (L2.start N (v0 :: vs')) H F1 ?_ _ _ ?_ (hb2 (.ln φ :: as) Pd PO hl hw)⟩
  · have at_ : ∀ {i : Nat} {s : Sl}, ((.ln φ :: as) ++ us)[i]? = some s → s ≠ .un → (i = 0 ∧ s = .ln φ) ∨ ∃ j, i = j + 1 ∧ as[j]? = some s := fun {i s} e n => by
      by_cases hi : i < (Sl.ln φ :: as).length
      · rw [List.getElem?_append_left hi] at e
        cases i with
        | zero => exact .inl ⟨rfl, (Option.some.inj e).symm⟩
        | succ j => exact .inr ⟨j, rfl, by simpa using e⟩
      · rw [List.getElem?_append_right (by omega), hus, List.getElem?_replicate] at e
        split at e
        · exact absurd (Option.some.inj e).symm n
        · cases e
    have arg : ∀ {j : Nat} {s : Sl}, as[j]? = some s → ∃ v, (L2.start N (v0 :: vs'))[j + 1]? = some (some v) ∧ Arg ⟨K, P, w⟩ T F1 v s := fun {j s} e => by
      obtain ⟨v, hv, ha⟩ := paired_get pr e
      exact ⟨v, start_get (i := j + 1) (by simpa using hv), ha⟩
    refine ⟨⟨b.sub, Sub.refl _, fun _ _ h => .inl h, fun _ _ h _ => h, fun a t => ⟨(b.tw a t).1, (b.tw a t).2, .inl t⟩, fun _ h => ⟨h, KdLe.refl _⟩⟩, ?_, fun i d e => ?_, fun i ds e => ?_, fun i kk e => ?_, fun i ns e => ?_, fun i j ds es a h1 _ _ _ => ?_, fun i ψ e => ?_⟩
    · rw [List.length_append, start_len, hus, List.length_replicate, List.length_cons, List.length_cons, hvl]
      omega
    · rcases at_ e (by intro z; cases z) with ⟨_, z⟩ | ⟨j, rfl, e2⟩
      · cases z
      · obtain ⟨v, hv, ha⟩ := arg e2
        cases ha with
        | va h => exact ⟨v, hv, h⟩
    · rcases at_ e (by intro z; cases z) with ⟨_, z⟩ | ⟨j, rfl, e2⟩
      · cases z
      · obtain ⟨v, hv, ha⟩ := arg e2
        cases ha
    · rcases at_ e (by intro z; cases z) with ⟨_, z⟩ | ⟨j, rfl, e2⟩
      · cases z
      · obtain ⟨v, hv, ha⟩ := arg e2
        cases ha with
        | ty h e => exact ⟨_, h, e, hv⟩
    · rcases at_ e (by intro z; cases z) with ⟨_, z⟩ | ⟨j, rfl, e2⟩
      · cases z
      · obtain ⟨v, hv, ha⟩ := arg e2
        cases ha with
        | sc h => exact ⟨_, hv, h⟩
    · rcases at_ h1 (by intro z; cases z) with ⟨_, z⟩ | ⟨j, rfl, e2⟩
      · cases z
      · obtain ⟨v, hv, ha⟩ := arg e2
        cases ha
    · rcases at_ e (by intro z; cases z) with ⟨rfl, z⟩ | ⟨j, rfl, e2⟩
      · cases z
        refine ⟨⟨v0, start_get (i := 0) rfl, hat⟩, fun x hx => ?_⟩
        obtain ⟨k1, k2, k3⟩ := hA x hx
        refine ⟨k1, k2, fun z => (by rw [hown] at z; cases z), k3, fun j g e => ?_⟩
        rcases at_ e (by intro z; cases z) with ⟨_, z⟩ | ⟨j, rfl, e2⟩
        · cases z
        · obtain ⟨v, hv, ha⟩ := arg e2
          cases ha
      · obtain ⟨v, hv, ha⟩ := arg e2
        obtain ⟨a0, a1⟩ := ha.lnAt
        exact ⟨⟨v, hv, a1 _⟩, fun x hx => absurd hx (by rw [a0]; simp)⟩
  · have st : ∀ {T' : Tws ⟨K, P, w⟩} {H' F' : Hp}, Gd H F1 T T' H' F' → Stp T H F1 H' F' := fun {T' H' F'} g => ⟨g.sub, g.f0, g.new, g.keep, fun a t => Tws.le_ok (g.tw a (g.mt a t).1).2.1 (g.mt a t).2⟩
    exact ⟨fun T' env σ H' F' r p => q .non .none H' F' (st r.toGd) .non p, fun T' v d H' F' g r p => q v d H' F' (st g) r p, fun _ _ _ _ _ _ z => z.elim, fun _ _ _ _ _ _ z => z.elim, fun T' a ds H' F' g r n p => qO a ds H' F' (st g) r n p, fun _ _ _ _ _ _ _ _ _ z => z.elim⟩
end Ab
namespace Ab
open PySem PySem.Spec PyProof.Rows L2
section
variable {X : Cx} {e a b c : Expr} {es : List Expr} {pos p : Pos} {x f : Str} {k n : Nat}
/-- a field of it that is a datum -/
def FldIs (φ : LnT) (f : Str) (d : DD) : Prop := ∀ (K : KW) (H F : Hp) (v : V), φ.at_ K H F v → ∃ (a C dx : Addr) (fs : List (Str × V)) (u : V), v = .ref a ∧ H a = some (.ins C dx fs) ∧ Cls K C ∧ NoAttr K C f ∧ fs.lookup f = some u ∧ Rp K F u d
def aFld (i : Nat) (f : Str) : AEx := fun env P => ∃ φ d, env[i]? = some (.ln φ) ∧ FldIs φ f d ∧ P d
theorem je_fld (i : Nat) {px : Pos} (hN : X.N[i]? = some x := by rfl) (hv : Vis X.env.scope x := by first | exact Or.inl rfl | exact Or.inr (Or.inl rfl) | exact Or.inr (Or.inr rfl)) (hd : (x == ("__debug__" : Str)) = false := by decide)
    (hcd : (x == ("__classdict__" : Str)) = false := by decide) (hb : attributeBase (.Name x px) f X.env (eval (.Name x px) X.env) = eval (.Name x px) X.env := by rfl) : JE X (.Attribute (.Name x px) f pos) (aFld i f) := by
  refine ⟨_, pe_fld (pe_var hN hv hd hcd) hb, fun B F0 M T env σ H F R0 P p Q q => ?_⟩
  obtain ⟨φ, d, p1, p2, p3⟩ := p
  obtain ⟨⟨v, h1, h2⟩, _⟩ := R0.ln i φ p1
  obtain ⟨a, C, dx, fs, u, rfl, g1, g2, g3, g4, g5⟩ := p2 _ H F v h2
  exact ⟨_, h1, a, C, dx, fs, u, rfl, g1, g2, g3, g4, q u d H F (.refl R0.bs) g5 p3⟩
/-- a call that hands a new list back -/
def aCallO (n : Nat) (W : WtO) (δ : AE → (AE → Prop) → Prop) : AOx := fun env P => δ env fun as => as.length = n ∧ W as P
theorem sim_callO {K : KW} {W : WtO} {δ : AE → (AE → Prop) → Prop} {ta : TA} (h : SimA K ta δ) {B F0 : Hp} {M T : Tws K} {env : AE} {σ : L2.St} {H F : Hp} (R0 : R K B F0 M T env σ H F) {P : List DD → Prop} (p : aCallO n W δ env P) {Q : VK} (q : ∀ r ds H' F', Stp T H F H' F' → Rp K F' (.ref r) (.list ds) → H r = none → P ds → Q (.ref r) H') : tCall (spAO K n W) [] E0 ta σ H Q :=
  h B F0 M T env σ H F R0 _ p _ fun vs as H1 F1 s1 d1 p1 => by
    rw [List.append_nil]
    exact ⟨F1, T, as, P, (R0.step s1).bs, d1, p1.1, p1.2, fun r ds H2 F2 s2 d2 n2 p2 => q r ds H2 F2 (s1.trans s2) d2 (s1.dom n2) p2⟩
/-- return f(..), a new list -/
theorem js_retCallO {W : WtO} {δ : AE → (AE → Prop) → Prop} {rp : Pos} (C : ClO X.prog X.w X.K X.mg X.base k x n W) (hr : Room k X.A) (ha : JA X (e :: es) δ) (hg : Gl X x := by rfl) (hdb : (x == ("__debug__" : Str)) = false := by decide)
    (he : starEach (e :: es) X.env = (false, eval e X.env) :: starEach es X.env := by rfl) (hpl : (backTo pos (starEach es X.env)).any (·.1) = false := by rfl) : JS X (.Return (some (.Call (.Name x p) (e :: es) [] pos)) rp) (aRetO (aCallO n W δ)) := by
  obtain ⟨t, h1, h2⟩ := ha.ex
  obtain ⟨f, fd, ps, g1, g2, g3, g4⟩ := C.ex
  exact ⟨_, ps_ret (pe_call g1 hr hg g2 g3 g4 .nil pass0 h1 hdb he hpl), fun B F0 M T env σ H F R0 A D l p => sim_callO h2 R0 p fun r ds H' F' s d nw p' => l.rtO T r ds H' F' (R0.step s).toGd d (R0.toGd.dom nw) p'⟩
end
end Ab
namespace Ab
open PySem PySem.Spec PyProof.Rows L2
/-- what a method that only reads is told: the lists of the thing are settled for it -/
structure RdOk (C : Addr) (m : Str) (φ ψ : LnT) (ls : List Addr) : Prop where
  own : ψ.own = false
  sub : ∀ x ∈ ls, x ∈ φ.A
  sub2 : ∀ x ∈ ψ.A, x ∈ φ.A ∧ x ∉ ls
  ins : ∀ (K : KW) (H F : Hp) (v : V), φ.at_ K H F v → ∃ a dx fs, v = .ref a ∧ H a = some (.ins C dx fs) ∧ fs.lookup m = none
  lst : ∀ (K : KW) (H F : Hp) (v : V), φ.at_ K H F v → ∀ x ∈ ls, ∃ xs, H x = some (.lst xs)
  at_ : ∀ (K : KW) (H F : Hp) (v : V), φ.at_ K H F v → (∀ x ∈ ls, F x = none) → ψ.at_ K H (lendL H F ls) v
section
variable {X : Cx} {pos p apos : Pos} {x m : Str} {k : Nat}
def aMeth0 (i : Nat) (C : Addr) (m : Str) (W : WtL) : AEx := fun env P => ∃ φ ψ ls, env[i]? = some (.ln φ) ∧ RdOk C m φ ψ ls ∧ W [.ln ψ] (fun d => keyD d = true ∧ P d) fun ds => keyDs ds = true ∧ P (.list ds)
/-- x.m(), x made of several objects, m a method that only reads -/
theorem j_meth0 (i : Nat) {C f : Addr} {fd : FuncData} {ps : List Str} {W : WtL} {pl : Sem Bool} (hC : Cls X.K C) (hM : Meth X.K C m f) (hF : FnOk X.prog X.w X.K X.mg X.base CX0 k f fd ps (spSelf (kw X) 1 W)) (hr : Room k X.A) (hB : Binds X.K fd ps [])
    (hN : X.N[i]? = some x := by rfl) (hv : Vis X.env.scope x := by first | exact Or.inl rfl | exact Or.inr (Or.inl rfl) | exact Or.inr (Or.inr rfl)) (hd : (x == ("__debug__" : Str)) = false := by decide)
    (hcd : (x == ("__classdict__" : Str)) = false := by decide)
    (he : eval (.Call (.Attribute (.Name x p) m apos) [] [] pos) X.env = (do
      let ov ← eval (.Name x p) X.env
      standAt apos.atName
      let y ← holding [ov] (getMethod ov m pl)
      match y with
      | (f, first) => callWith pos f first (backTo pos (starEach [] X.env)) (backToKw pos (keywordEach [] X.env))) := by rfl) : JE X (.Call (.Attribute (.Name x p) m apos) [] [] pos) (aMeth0 i C m W) := by
  refine ⟨_, pe_meth0 (pe_var hN hv hd hcd) hC hM hF hr hB .nil pass0 he, fun B F0 M T env σ H F R0 P p Q q => ?_⟩
  obtain ⟨φ, ψ, ls, p1, ok, p2⟩ := p
  obtain ⟨⟨v, h1, h2⟩, h3⟩ := R0.ln i φ p1
  obtain ⟨a, dx, fs, rfl, g1, g2⟩ := ok.ins _ H F v h2
  have fn : ∀ y ∈ ls, F y = none := fun y hy => (h3 y (ok.sub y hy)).2.1
  have l : Lent T H F ls := ⟨ok.lst _ H F _ h2, fun y hy => ⟨fn y hy, (h3 y (ok.sub y hy)).2.2.2.1⟩⟩
  refine ⟨_, h1, a, dx, fs, rfl, g1, g2, ?_⟩
  refine ⟨lendL H F ls, T, ψ, .ref a, [], [], _, _, rfl, lend_bs R0.bs l, ok.own, ok.at_ _ H F _ h2 fn, fun y hy => ?_, .nil, rfl, p2, fun w d H' F' s r pd => ?_, fun r ds H' F' s rr nw pd => ?_⟩
  · obtain ⟨y1, y2⟩ := ok.sub2 y hy
    obtain ⟨k1, k2, _, k4, _⟩ := h3 y y1
    exact ⟨k1, by unfold lendL; rw [if_neg y2]; exact k2, k4⟩
  · have hl : ∀ y ∈ ls, ∃ xs, F' y = some (.lst xs) := fun y hy => by
      obtain ⟨xs, e⟩ := l.at_ y hy
      exact ⟨xs, by rw [(lend_kept l s y hy).2]; exact e⟩
    exact q w d H' _ (lend_back l s) (Rp.off hl d pd.1 r) pd.2
  · have hl : ∀ y ∈ ls, ∃ xs, F' y = some (.lst xs) := fun y hy => by
      obtain ⟨xs, e⟩ := l.at_ y hy
      exact ⟨xs, by rw [(lend_kept l s y hy).2]; exact e⟩
    have hr : r ∉ ls := fun z => by
      obtain ⟨xs, e⟩ := l.at_ r z
      rw [nw] at e; cases e
    exact q (.ref r) (.list ds) H' _ (lend_back l s) (Rp.offNew hl hr pd.1 rr) pd.2
end
end Ab
namespace Lr
open PySem Ab L2
structure Dk where
  room : Int
  pause : Int
  rule : Rule
  cs : List Int
  un : List Int
def dkF (vC vR : V) (l1 l2 : Addr) : List (Str × V) := [("_crossing", vC), ("_rule", vR), ("_comings", .ref l1), ("_undone", .ref l2)]
structure DkCls (K : PySem.W.Frag) (C : Addr) : Prop where
  cls : Cls K C
  f1 : NoAttr K C "_crossing"
  f2 : NoAttr K C "_rule"
  f3 : NoAttr K C "_comings"
  f4 : NoAttr K C "_undone"
/-- the desk at a, of the class C -/
def dkT (C a dx l1 l2 : Addr) (c : Dk) : LnT where
  A := [a, dx, l1, l2]
  own := true
  at_ := fun K H F v => v = .ref a ∧ DkCls K C ∧ [a, dx, l1, l2].Nodup ∧ H dx = some (.own a) ∧ H l1 = some (.lst (c.cs.map V.int)) ∧ H l2 = some (.lst (c.un.map V.int)) ∧ ∃ vC vR, H a = some (.ins C dx (dkF vC vR l1 l2)) ∧ Rp K F vC (crD c.room c.pause) ∧ Rp K F vR c.rule.d
  mono := fun {K H F H' F' v} h k s => by
    obtain ⟨h1, hc, h2, h3, h4, h5, vC, vR, h6, h7, h8⟩ := h
    exact ⟨h1, hc, h2, by rw [k dx (by simp)]; exact h3, by rw [k l1 (by simp)]; exact h4, by rw [k l2 (by simp)]; exact h5, vC, vR, by rw [k a (by simp)]; exact h6, Rp.sub s _ h7, Rp.sub s _ h8⟩
/-- what a method that only reads sees -/
def dkR (C a dx l1 l2 : Addr) (c : Dk) : LnT where
  A := [a, dx]
  own := false
  at_ := fun K H F v => v = .ref a ∧ DkCls K C ∧ ∃ vC vR, H a = some (.ins C dx (dkF vC vR l1 l2)) ∧ Rp K F vC (crD c.room c.pause) ∧ Rp K F vR c.rule.d ∧ Rp K F (.ref l1) (coD c.cs) ∧ Rp K F (.ref l2) (coD c.un)
  mono := fun {K H F H' F' v} h k s => by
    obtain ⟨h1, hc, vC, vR, h6, h7, h8, h9, h10⟩ := h
    exact ⟨h1, hc, vC, vR, by rw [k a (by simp)]; exact h6, Rp.sub s _ h7, Rp.sub s _ h8, Rp.sub s _ h9, Rp.sub s _ h10⟩
theorem rp_ints {K : KW} {F : Hp} : ∀ cs : List Int, RpAll K F (cs.map V.int) (cs.map PyData.int)
  | [] => .nil
  | c :: cs => .cons (.int c) (rp_ints cs)
theorem dk_rd {C a dx l1 l2 : Addr} {c : Dk} {m : Str} (hm : m ≠ "_crossing" ∧ m ≠ "_rule" ∧ m ≠ "_comings" ∧ m ≠ "_undone") (nd : [a, dx, l1, l2].Nodup) : RdOk C m (dkT C a dx l1 l2 c) (dkR C a dx l1 l2 c) [l1, l2] := by
  refine ⟨rfl, fun x hx => ?_, fun x hx => ?_, fun K H F v h => ?_, fun K H F v h x hx => ?_, fun K H F v h hn => ?_⟩
  · show x ∈ [a, dx, l1, l2]
    simp only [List.mem_cons, List.not_mem_nil, or_false] at hx ⊢
    rcases hx with rfl | rfl <;> simp
  · have hx : x ∈ [a, dx] := hx
    show x ∈ [a, dx, l1, l2] ∧ x ∉ [l1, l2]
    simp only [List.nodup_cons, List.mem_cons, List.not_mem_nil, or_false, not_or] at nd hx ⊢
    obtain ⟨⟨n1, n2, n3⟩, ⟨n4, n5⟩, _⟩ := nd
    rcases hx with rfl | rfl
    · exact ⟨.inl rfl, n2, n3⟩
    · exact ⟨.inr (.inl rfl), n4, n5⟩
  · obtain ⟨h1, hc, h2, h3, h4, h5, vC, vR, h6, h7, h8⟩ := h
    refine ⟨a, dx, _, h1, h6, ?_⟩
    have e : ∀ y : Str, m ≠ y → (m == y) = false := fun y h => beq_eq_false_iff_ne.mpr h
    simp only [dkF, List.lookup, e _ hm.1, e _ hm.2.1, e _ hm.2.2.1, e _ hm.2.2.2]
  · obtain ⟨h1, hc, h2, h3, h4, h5, _⟩ := h
    simp only [List.mem_cons, List.not_mem_nil, or_false] at hx
    rcases hx with rfl | rfl
    · exact ⟨_, h4⟩
    · exact ⟨_, h5⟩
  · obtain ⟨h1, hc, h2, h3, h4, h5, vC, vR, h6, h7, h8⟩ := h
    have sb : Sub F (lendL H F [l1, l2]) := fun x o e => by
      unfold lendL
      by_cases q : x ∈ [l1, l2]
      · rw [hn x q] at e; cases e
      · rw [if_neg q]; exact e
    exact ⟨h1, hc, vC, vR, h6, Rp.sub sb _ h7, Rp.sub sb _ h8, .lst (by unfold lendL; rw [if_pos (by simp)]; exact h4) (rp_ints _), .lst (by unfold lendL; rw [if_pos (by simp)]; exact h5) (rp_ints _)⟩
end Lr
namespace Lr
open PySem Ab L2
section
variable {C a dx l1 l2 : Addr} {c : Dk}
theorem fld_crossing : FldIs (dkR C a dx l1 l2 c) "_crossing" (crD c.room c.pause) := fun K H F v h => by
  obtain ⟨h1, hc, vC, vR, h6, h7, h8, h9, h10⟩ := h
  exact ⟨a, C, dx, _, vC, h1, h6, hc.cls, hc.f1, rfl, h7⟩
theorem fld_rule : FldIs (dkR C a dx l1 l2 c) "_rule" c.rule.d := fun K H F v h => by
  obtain ⟨h1, hc, vC, vR, h6, h7, h8, h9, h10⟩ := h
  exact ⟨a, C, dx, _, vR, h1, h6, hc.cls, hc.f2, rfl, h8⟩
theorem fld_comings : FldIs (dkR C a dx l1 l2 c) "_comings" (coD c.cs) := fun K H F v h => by
  obtain ⟨h1, hc, vC, vR, h6, h7, h8, h9, h10⟩ := h
  exact ⟨a, C, dx, _, .ref l1, h1, h6, hc.cls, hc.f3, rfl, h9⟩
end
def DkOk (c : Dk) : Prop := CrOk c.room c.pause ∧ c.rule.ok ∧ CosOk c.cs
def WD_comings : WtL := fun as _ PO => ∃ C a dx l1 l2 c, as = [.ln (dkR C a dx l1 l2 c)] ∧ DkOk c ∧ PO (c.cs.map PyData.int)
def WD_lights : WtL := fun as _ PO => ∃ C a dx l1 l2 c, as = [.ln (dkR C a dx l1 l2 c)] ∧ DkOk c ∧ PO ((lights c.room c.pause c.rule c.cs).map Lt.d)
def WO_lights : WtO := fun as P => ∃ room pause rule cs, as = [.va (crD room pause), .va (Rule.d rule), .va (coD cs)] ∧ CrOk room pause ∧ rule.ok ∧ CosOk cs ∧ P ((lights room pause rule cs).map Lt.d)
end Lr
namespace Ab
open PySem PySem.Spec PyProof.Rows L2
/-- no other such thing -/
def noLn (env : AE) (i : Nat) : Bool := (env.set i .un).all fun s => match s with | .ln _ => false | _ => true
theorem noLn_of {env : AE} {i j : Nat} {φ : LnT} (h : noLn env i = true) (e : env[j]? = some (.ln φ)) : j = i := by
  by_cases q : i = j
  · exact q.symm
  · exfalso
    have e2 : (env.set i .un)[j]? = some (.ln φ) := by rw [List.getElem?_set_ne q]; exact e
    have := List.all_eq_true.mp h _ (List.mem_of_getElem? e2)
    cases this
/-- what such a thing may become -/
structure LnTo (φ φ' : LnT) : Prop where
  own : φ.own = true ∧ φ'.own = true
  sub : ∀ x ∈ φ.A, x ∈ φ'.A
  same : ∀ {K : KW} {H F H' F' : Hp} {v v' : V}, φ.at_ K H F v → φ'.at_ K H' F' v' → v' = v
section
variable {K : KW} {B F0 : Hp} {M T : Tws K} {env : AE} {σ : L2.St} {H F H' F' : Hp}
/-- a step that changes the objects A too -/
structure StpA {K : KW} (T : Tws K) (A : List Addr) (H F H' F' : Hp) : Prop where
  sub : Sub F' H'
  ext : Sub F F'
  new : ∀ a o, F' a = some o → F a = some o ∨ H a = none
  keep : ∀ a o, H a = some o → ¬ T a → a ∉ A → H' a = some o
  tc : ∀ a, T a → T.ok H' a
theorem R.lnMut {i : Nat} {φ φ' : LnT} (r : R K B F0 M T env σ H F) (hi : env[i]? = some (.ln φ)) (one : noLn env i = true) (s : StpA T φ.A H F H' F') (ow : φ.own = true) (ow' : φ'.own = true)
    (hv : ∀ v, φ.at_ K H F v → φ'.at_ K H' F' v) (hA : ∀ x ∈ φ'.A, (∃ o, H' x = some o) ∧ F' x = none ∧ (x ∈ φ.A ∨ H x = none)) : R K B F0 M T (env.set i (.ln φ')) σ H' F' := by
  have il : i < env.length := (List.getElem?_eq_some_iff.mp hi).1
  obtain ⟨⟨v, e1, e2⟩, e3⟩ := r.ln i φ hi
  have hF : ∀ x o, H x = some o → F x = none → F' x = none := fun x o ho hf => by
    cases q : F' x with
    | none => rfl
    | some u =>
      rcases s.new x u q with z | z
      · rw [hf] at z; cases z
      · rw [ho] at z; cases z
  have hn : ∀ x ∈ φ.A, B x = none ∧ ¬ T x := fun x hx => ⟨(e3 x hx).2.2.1 ow, (e3 x hx).2.2.2.1⟩
  have at_ : ∀ {j : Nat} {s : Sl}, (env.set i (.ln φ'))[j]? = some s → (i = j ∧ s = .ln φ') ∨ (i ≠ j ∧ env[j]? = some s) := fun {j s} he => by
    by_cases q : i = j
    · subst q
      rw [List.getElem?_set_self il] at he
      exact .inl ⟨rfl, (Option.some.inj he).symm⟩
    · rw [List.getElem?_set_ne q] at he
      exact .inr ⟨q, he⟩
  refine ⟨⟨s.sub, r.f0.trans s.ext, fun a o e => ?_, fun a o e m => ?_, fun a t => ?_, r.mt⟩, by rw [List.length_set]; exact r.len, fun j d e => ?_, fun j g e => ?_, fun j k e => ?_, fun j ns e => ?_, fun j k g g' a h1 h2 h3 h4 => ?_, fun j ψ e => ?_⟩
  · rcases s.new a o e with z | z
    · exact r.new a o z
    · exact .inr (r.toGd.dom z)
  · refine s.keep a o (r.keep a o e m) (fun t => ?_) (fun z => ?_)
    · rcases (r.tw a t).2.2 with z | z
      · exact m z
      · rw [e] at z; cases z
    · rw [(hn a z).1] at e; cases e
  · obtain ⟨o, z⟩ := Tws.has (r.tw a t).2.1
    exact ⟨hF a o z (r.tw a t).1, s.tc a t, (r.tw a t).2.2⟩
  · rcases at_ e with ⟨_, z⟩ | ⟨_, z⟩
    · cases z
    · obtain ⟨v, h1, h2⟩ := r.va j d z
      exact ⟨v, h1, Rp.sub s.ext _ h2⟩
  · rcases at_ e with ⟨_, z⟩ | ⟨_, z⟩
    · cases z
    · obtain ⟨a, u, h1, h2, h3, h4, h5, h6⟩ := r.og j g z
      refine ⟨a, u, h1, s.keep a u h2 h5 (fun y => (e3 a y).2.2.2.2 j g z h1), hF a u h2 h3, h4, h5, h6.sub s.ext⟩
  · rcases at_ e with ⟨_, z⟩ | ⟨_, z⟩
    · cases z
    · exact r.ti j k z
  · rcases at_ e with ⟨_, z⟩ | ⟨_, z⟩
    · cases z
    · obtain ⟨a, h1, h2⟩ := r.sc j ns z
      exact ⟨a, h1, s.ext.seqL h2⟩
  · rcases at_ h1 with ⟨_, z⟩ | ⟨_, z1⟩
    · cases z
    · rcases at_ h2 with ⟨_, z⟩ | ⟨_, z2⟩
      · cases z
      · exact r.di j k g g' a z1 z2 h3 h4
  · rcases at_ e with ⟨q, z⟩ | ⟨q, z⟩
    · subst q; cases z
      refine ⟨⟨v, e1, hv v e2⟩, fun x hx => ?_⟩
      obtain ⟨a1, a2, a3⟩ := hA x hx
      refine ⟨a1, a2, fun _ => ?_, ?_, fun j g he => ?_⟩
      · rcases a3 with a3 | a3
        · exact (hn x a3).1
        · exact r.toGd.dom a3
      · rcases a3 with a3 | a3
        · exact (hn x a3).2
        · intro t
          obtain ⟨o, z⟩ := Tws.has (r.tw x t).2.1
          rw [a3] at z; cases z
      · rcases at_ he with ⟨_, z⟩ | ⟨_, z⟩
        · cases z
        · rcases a3 with a3 | a3
          · exact (e3 x a3).2.2.2.2 j g z
          · intro h
            obtain ⟨a, u, h1, h2, _⟩ := r.og j g z
            rw [h] at h1
            have : x = a := by
              have := Option.some.inj (Option.some.inj h1)
              injection this
            subst this
            rw [a3] at h2; cases h2
    · exact absurd (noLn_of one z).symm q
/-- a new one is put into a slot -/
theorem R.putL {i : Nat} {φ : LnT} {v : V} (r : R K B F0 M T env σ H F) (il : i < env.length) (hv : φ.at_ K H F v) (hA : ∀ x ∈ φ.A, (∃ o, H x = some o) ∧ F x = none ∧ B x = none ∧ ¬ T x ∧ (∀ (j : Nat) g, env[j]? = some (.og g) → σ[j]? ≠ some (some (.ref x)))) :
    R K B F0 M T (env.set i (.ln φ)) (σ.set i (some v)) H F := by
  have at_ : ∀ {j : Nat} {s : Sl}, (env.set i (.ln φ))[j]? = some s → (i = j ∧ s = .ln φ) ∨ (i ≠ j ∧ env[j]? = some s) := fun {j s} he => by
    by_cases q : i = j
    · subst q
      rw [List.getElem?_set_self il] at he
      exact .inl ⟨rfl, (Option.some.inj he).symm⟩
    · rw [List.getElem?_set_ne q] at he
      exact .inr ⟨q, he⟩
  refine ⟨r.toGd, by rw [List.length_set, List.length_set]; exact r.len, fun j d e => ?_, fun j g e => ?_, fun j k e => ?_, fun j ns e => ?_, fun j k g g' a h1 h2 h3 h4 => ?_, fun j ψ e => ?_⟩
  · rcases at_ e with ⟨_, z⟩ | ⟨q, z⟩
    · cases z
    · rw [List.getElem?_set_ne q]; exact r.va j d z
  · rcases at_ e with ⟨_, z⟩ | ⟨q, z⟩
    · cases z
    · rw [List.getElem?_set_ne q]; exact r.og j g z
  · rcases at_ e with ⟨_, z⟩ | ⟨q, z⟩
    · cases z
    · rw [List.getElem?_set_ne q]; exact r.ti j k z
  · rcases at_ e with ⟨_, z⟩ | ⟨q, z⟩
    · cases z
    · rw [List.getElem?_set_ne q]; exact r.sc j ns z
  · rcases at_ h1 with ⟨_, z⟩ | ⟨q1, z1⟩
    · cases z
    · rcases at_ h2 with ⟨_, z⟩ | ⟨q2, z2⟩
      · cases z
      · rw [List.getElem?_set_ne q1] at h3
        rw [List.getElem?_set_ne q2] at h4
        exact r.di j k g g' a z1 z2 h3 h4
  · rcases at_ e with ⟨q, z⟩ | ⟨q, z⟩
    · subst q; cases z
      refine ⟨⟨v, List.getElem?_set_self (by rw [← r.len]; exact il), hv⟩, fun x hx => ?_⟩
      obtain ⟨a1, a2, a3, a4, a5⟩ := hA x hx
      refine ⟨a1, a2, fun _ => a3, a4, fun j g he => ?_⟩
      rcases at_ he with ⟨_, z⟩ | ⟨q, z⟩
      · cases z
      · rw [List.getElem?_set_ne q]; exact a5 j g z
    · rw [List.getElem?_set_ne q]
      obtain ⟨h1, h2⟩ := r.ln j ψ z
      refine ⟨h1, fun x hx => ?_⟩
      obtain ⟨a1, a2, a3, a4, a5⟩ := h2 x hx
      refine ⟨a1, a2, a3, a4, fun k g he => ?_⟩
      rcases at_ he with ⟨_, z⟩ | ⟨q, z⟩
      · cases z
      · rw [List.getElem?_set_ne q]; exact a5 k g z
/-- one object of it is written -/
theorem StpA.upd {A : List Addr} {x : Addr} {o : HO} (g : Bs T H F) (hx : x ∈ A) (nt : ¬ T x) (fx : F x = none) (hm : H x = none ∨ Mut (H x)) : StpA T A H F (upd H x o) F := by
  refine ⟨fun a u e => ?_, Sub.refl F, fun a u e => .inl e, fun a u e _ na => ?_, fun a t => ?_⟩
  · have : a ≠ x := fun z => by subst z; rw [fx] at e; cases e
    rw [upd_ne this]; exact g.sub a u e
  · have : a ≠ x := fun z => by subst z; exact na hx
    rw [upd_ne this]; exact e
  · have : a ≠ x := fun z => by subst z; exact nt t
    exact Tws.mono (g.tw a t).2 this hm
theorem StpA.after {A : List Addr} {H2 F2 : Hp} (s : Stp T H F H' F') (t : StpA T A H' F' H2 F2) : StpA T A H F H2 F2 := ⟨t.sub, s.ext.trans t.ext, fun a o h => by
  rcases t.new a o h with z | z
  · exact s.new a o z
  · exact .inr (s.dom z), fun a o e nt na => t.keep a o (s.keep a o e nt) nt na, t.tc⟩
end
abbrev AXm := AE → (DD → AE → Prop) → Prop
abbrev ATm := AE → (Bool → AE → Prop) → Prop
def SimEm (K : KW) (t : TE) (α : AXm) : Prop := ∀ B F0 M T env σ H F, R K B F0 M T env σ H F → ∀ P, α env P → ∀ Q : VK, (∀ v d env' H' F', R K B F0 M T env' σ H' F' → Rp K F' v d → P d env' → Q v H') → t σ H Q
structure JEm (X : Cx) (e : Expr) (α : AXm) : Prop where ex : ∃ t, PE X e t ∧ SimEm (kw X) t α
section
variable {X : Cx} {e a b c : Expr} {es : List Expr} {pos p : Pos} {α : AXm} {β : AEx} {τ : ATm} {υ : ATx}
def aDropM (α : AXm) : ASx := fun A env => α env fun _ env' => A.nx env'
theorem js_exprM (he : JEm X e α) (hs : swapsWith e none pos.line X.env = pure false := by rfl) : JS X (.Expr e pos) (aDropM α) := by
  obtain ⟨t, h1, h2⟩ := he.ex
  exact ⟨_, ps_expr h1 hs, fun B F0 M T env σ H F R0 A D l p => h2 B F0 M T env σ H F R0 _ p _ fun v d env1 H1 F1 R1 d1 p1 => l.nx T env1 σ H1 F1 R1 p1⟩
end
abbrev WtM := AE → (DD → LnT → Prop) → Prop
def spMut (K : KW) (n : Nat) (W : WtM) : Sp := fun vs H Q _ => ∃ (F : Hp) (T : Tws K) (φ : LnT) (v : V) (vs' : List V) (as : AE) (P : DD → LnT → Prop), vs = v :: vs' ∧ Bs T H F ∧ φ.own = true ∧ φ.at_ K H F v ∧ (∀ x ∈ φ.A, (∃ o, H x = some o) ∧ F x = none ∧ ¬ T x) ∧ Paired (Arg K T F) vs' as ∧ as.length + 1 = n ∧ W (.ln φ :: as) P ∧
  ∀ w d φ' H' F', LnTo φ φ' → StpA T φ.A H F H' F' → φ'.at_ K H' F' v → (∀ x ∈ φ'.A, (∃ o, H' x = some o) ∧ F' x = none ∧ (x ∈ φ.A ∨ H x = none)) → Rp K F' w d → P d φ' → Q w H'
theorem spMut_len {K : KW} {n : Nat} {W : WtM} : ∀ vs H Q E, spMut K n W vs H Q E → vs.length = n := fun vs H Q E h => by
  obtain ⟨F, T, φ, v, vs', as, P, rfl, _, _, _, _, h2, h3, _⟩ := h
  rw [← h3, List.length_cons, pairedLen h2]
theorem def_fnM {P : Program} {w : World} {K : PySem.W.Frag} {mg : Str → Option Value} {base : Heap} {k : Nat} {x qual : Str} {st : Stmt} {f : Addr} {fd : FuncData} {N ps : List Str} {W : WtM} (us : AE) (F : Fun K x qual st f fd) (S : FnScope N ps (defScope st))
    (hbody : ∃ a : ASx, (∀ (cdv : Value) (A : Around) (outer : List Env) (s : Shared) (H : Hp) (E : XK), Room k (A.deeper (envOfC qual (defScope st) s.heap.objs.size f cdv)) → JSs (cxOf CX0 P w K mg base N qual (defScope st) f cdv A outer s H E).nox (defBody st) a) ∧
      ∀ φ as Q, as.length + 1 = ps.length → W (.ln φ :: as) Q → φ.own = true → a { nx := fun env => ∃ φ', env[0]? = some (.ln φ') ∧ LnTo φ φ' ∧ Q .none φ', rt := fun _ => False, rtE := fun d env => ∃ φ', env[0]? = some (.ln φ') ∧ LnTo φ φ' ∧ Q d φ' } (.ln φ :: as ++ us))
    (hus : us = List.replicate (N.length - ps.length) Sl.un := by rfl) : FnOk P w K mg base CX0 (k + 1) f fd ps (spMut ⟨K, P, w⟩ ps.length W) := by
  refine F.ok S (fun vs H Q E h => spMut_len vs H Q E h) (fun cdv A outer s H vs Q E hr h => ?_)
  obtain ⟨a, hb1, hb2⟩ := hbody
  obtain ⟨F1, T, φ, v0, vs', as, Pd, rfl, b, hown, hat, hA, pr, hl, hw, q⟩ := h
  obtain ⟨t, h1, h2⟩ := (hb1 cdv A outer s H E hr).ex
  have hvl : vs'.length = as.length := pairedLen pr
  have boff : ∀ x o, offL H φ.A x = some o → H x = some o ∧ x ∉ φ.A := fun x o e => by
    unfold offL at e
    by_cases z : x ∈ φ.A
    · rw [if_pos z] at e; cases e
    · rw [if_neg z] at e; exact ⟨e, z⟩
  have nof : ∀ x, offL H φ.A x = none → H x = none ∨ x ∈ φ.A := fun x e => by
    unfold offL at e
    by_cases z : x ∈ φ.A
    · exact .inr z
    · rw [if_neg z] at e; exact .inl e
  refine ⟨t, h1, h2 (offL H φ.A) F1 T T (.ln φ :: as ++ us) (L2.start N (v0 :: vs')) H F1 ?_ _ _ ?_ (hb2 φ as Pd hl hw hown)⟩
  · have at_ : ∀ {i : Nat} {s : Sl}, (.ln φ :: as ++ us)[i]? = some s → s ≠ .un → (i = 0 ∧ s = .ln φ) ∨ ∃ j, i = j + 1 ∧ as[j]? = some s := fun {i s} e n => by
      by_cases hi : i < (Sl.ln φ :: as).length
      · rw [List.getElem?_append_left hi] at e
        cases i with
        | zero => exact .inl ⟨rfl, (Option.some.inj e).symm⟩
        | succ j => exact .inr ⟨j, rfl, by simpa using e⟩
      · rw [List.getElem?_append_right (by omega), hus, List.getElem?_replicate] at e
        split at e
        · exact absurd (Option.some.inj e).symm n
        · cases e
    have arg : ∀ {j : Nat} {s : Sl}, as[j]? = some s → ∃ v, (L2.start N (v0 :: vs'))[j + 1]? = some (some v) ∧ Arg ⟨K, P, w⟩ T F1 v s := fun {j s} e => by
      obtain ⟨v, hv, ha⟩ := paired_get pr e
      exact ⟨v, start_get (i := j + 1) (by simpa using hv), ha⟩
    refine ⟨⟨b.sub, Sub.refl _, fun _ _ h => .inl h, fun a o h _ => (boff a o h).1, fun a t => ⟨(b.tw a t).1, (b.tw a t).2, .inl t⟩, fun _ h => ⟨h, KdLe.refl _⟩⟩, ?_, fun i d e => ?_, fun i ds e => ?_, fun i kk e => ?_, fun i ns e => ?_, fun i j ds es a h1 _ _ _ => ?_, fun i ψ e => ?_⟩
    · rw [List.length_append, start_len, hus, List.length_replicate, List.length_cons, List.length_cons, hvl]
      omega
    · rcases at_ e (by intro z; cases z) with ⟨_, z⟩ | ⟨j, rfl, e2⟩
      · cases z
      · obtain ⟨v, hv, ha⟩ := arg e2
        cases ha with
        | va h => exact ⟨v, hv, h⟩
    · rcases at_ e (by intro z; cases z) with ⟨_, z⟩ | ⟨j, rfl, e2⟩
      · cases z
      · obtain ⟨v, hv, ha⟩ := arg e2
        cases ha
    · rcases at_ e (by intro z; cases z) with ⟨_, z⟩ | ⟨j, rfl, e2⟩
      · cases z
      · obtain ⟨v, hv, ha⟩ := arg e2
        cases ha with
        | ty h e => exact ⟨_, h, e, hv⟩
    · rcases at_ e (by intro z; cases z) with ⟨_, z⟩ | ⟨j, rfl, e2⟩
      · cases z
      · obtain ⟨v, hv, ha⟩ := arg e2
        cases ha with
        | sc h => exact ⟨_, hv, h⟩
    · rcases at_ h1 (by intro z; cases z) with ⟨_, z⟩ | ⟨j, rfl, e2⟩
      · cases z
      · obtain ⟨v, hv, ha⟩ := arg e2
        cases ha
    · rcases at_ e (by intro z; cases z) with ⟨rfl, z⟩ | ⟨j, rfl, e2⟩
      · cases z
        refine ⟨⟨v0, start_get (i := 0) rfl, hat⟩, fun x hx => ?_⟩
        obtain ⟨k1, k2, k3⟩ := hA x hx
        refine ⟨k1, k2, fun _ => by unfold offL; rw [if_pos hx], k3, fun j g e => ?_⟩
        rcases at_ e (by intro z; cases z) with ⟨_, z⟩ | ⟨j, rfl, e2⟩
        · cases z
        · obtain ⟨v, hv, ha⟩ := arg e2
          cases ha
      · obtain ⟨v, hv, ha⟩ := arg e2
        obtain ⟨a0, a1⟩ := ha.lnAt
        exact ⟨⟨v, hv, a1 _⟩, fun x hx => absurd hx (by rw [a0]; simp)⟩
  · have fin : ∀ T' w' d env σ H' F', R ⟨K, P, w⟩ (offL H φ.A) F1 T T' env σ H' F' → Rp ⟨K, P, w⟩ F' w' d → (∃ φ', env[0]? = some (.ln φ') ∧ LnTo φ φ' ∧ Pd d φ') → Q w' H' := fun T' w' d env σ H' F' r rd p => by
      obtain ⟨φ', p1, p2, p3⟩ := p
      obtain ⟨⟨v, z1, z2⟩, z3⟩ := r.ln 0 φ' p1
      have ev := p2.same hat z2
      subst ev
      have hnA : ∀ x, x ∈ φ.A → F' x = none := fun x hx => (z3 x (p2.sub x hx)).2.1
      refine q w' d φ' H' F' p2 ⟨r.sub, r.f0, fun a o e => ?_, fun a o e nt na => r.keep a o (by unfold offL; rw [if_neg na]; exact e) nt, fun a t => Tws.le_ok (r.tw a (r.mt a t).1).2.1 (r.mt a t).2⟩ z2 (fun x hx => ?_) rd p3
      · rcases r.new a o e with z | z
        · exact .inl z
        · rcases nof a z with y | y
          · exact .inr y
          · rw [hnA a y] at e; cases e
      · obtain ⟨y1, y2, y3, _⟩ := z3 x hx
        exact ⟨y1, y2, (nof x (y3 p2.own.2)).symm⟩
    exact ⟨fun T' env σ H' F' r p => fin T' .non .none env σ H' F' r .non p, fun _ _ _ _ _ _ _ z => z.elim, fun _ _ _ _ _ _ z => z.elim, fun _ _ _ _ _ _ z => z.elim, fun _ _ _ _ _ _ _ _ z => z.elim, fun T' w' d env σ H' F' r rd p => fin T' w' d env σ H' F' r rd p⟩
/-- x.m(e, ..), x such a thing, m a method that changes it -/
structure ClM (P : Program) (w : World) (K : PySem.W.Frag) (mg : Str → Option Value) (base : Heap) (k : Nat) (C : Addr) (m : Str) (n : Nat) (W : WtM) : Prop where
  ex : ∃ (f : Addr) (fd : FuncData) (ps : List Str), FnOk P w K mg base CX0 k f fd ps (spMut ⟨K, P, w⟩ n W) ∧ Meth K C m f ∧ Binds K fd ps []
structure ClR (P : Program) (w : World) (K : PySem.W.Frag) (mg : Str → Option Value) (base : Heap) (k : Nat) (C : Addr) (m : Str) (n : Nat) (W : WtL) : Prop where
  ex : ∃ (f : Addr) (fd : FuncData) (ps : List Str), FnOk P w K mg base CX0 k f fd ps (spSelf ⟨K, P, w⟩ n W) ∧ Meth K C m f ∧ Binds K fd ps []
structure ClN (P : Program) (w : World) (K : PySem.W.Frag) (mg : Str → Option Value) (base : Heap) (k : Nat) (x : Str) (C : Addr) (n : Nat) (W : WtM) : Prop where
  ex : ∃ (f : Addr) (fd : FuncData) (ps : List Str), FnOk P w K mg base CX0 k f fd ps (spMut ⟨K, P, w⟩ n W) ∧ Mk K C f ∧ mg x = some (.ref C) ∧ Binds K fd ps []
section
variable {P : Program} {w : World} {K : PySem.W.Frag} {mg : Str → Option Value} {base : Heap} {j k : Nat} {C : Addr} {m x : Str} {n : Nat}
theorem ClM.mono {W : WtM} (h : ClM P w K mg base j C m n W) (l : j ≤ k) : ClM P w K mg base k C m n W := by
  obtain ⟨f, fd, ps, h1, h2⟩ := h.ex
  exact ⟨f, fd, ps, h1.mono l, h2⟩
theorem ClR.mono {W : WtL} (h : ClR P w K mg base j C m n W) (l : j ≤ k) : ClR P w K mg base k C m n W := by
  obtain ⟨f, fd, ps, h1, h2⟩ := h.ex
  exact ⟨f, fd, ps, h1.mono l, h2⟩
theorem ClN.mono {W : WtM} (h : ClN P w K mg base j x C n W) (l : j ≤ k) : ClN P w K mg base k x C n W := by
  obtain ⟨f, fd, ps, h1, h2⟩ := h.ex
  exact ⟨f, fd, ps, h1.mono l, h2⟩
end
section
variable {X : Cx} {e : Expr} {es : List Expr} {pos p apos : Pos} {x m : Str} {k n : Nat}
def aMethM (i : Nat) (C : Addr) (m : Str) (n : Nat) (W : WtM) (δ : AE → (AE → Prop) → Prop) : AXm := fun env P => ∃ φ, env[i]? = some (.ln φ) ∧ noLn env i = true ∧ φ.own = true ∧ (∀ (K : KW) (H F : Hp) (v : V), φ.at_ K H F v → ∃ a dx fs, v = .ref a ∧ H a = some (.ins C dx fs) ∧ fs.lookup m = none) ∧
  δ env fun as => as.length + 1 = n ∧ W (.ln φ :: as) fun d φ' => P d (env.set i (.ln φ'))
theorem j_methM (i : Nat) {C : Addr} {W : WtM} {δ : AE → (AE → Prop) → Prop} {pl : Sem Bool} (hC : Cls X.K C) (c : ClM X.prog X.w X.K X.mg X.base k C m n W) (hr : Room k X.A) (ha : JA X (e :: es) δ)
    (hN : X.N[i]? = some x := by rfl) (hv : Vis X.env.scope x := by first | exact Or.inl rfl | exact Or.inr (Or.inl rfl) | exact Or.inr (Or.inr rfl)) (hd : (x == ("__debug__" : Str)) = false := by decide)
    (hcd : (x == ("__classdict__" : Str)) = false := by decide)
    (hst : starEach (e :: es) X.env = (false, eval e X.env) :: starEach es X.env := by rfl) (hpl : (backTo pos (starEach es X.env)).any (·.1) = false := by rfl)
    (he : eval (.Call (.Attribute (.Name x p) m apos) (e :: es) [] pos) X.env = (do
      let ov ← eval (.Name x p) X.env
      standAt apos.atName
      let y ← holding [ov] (getMethod ov m pl)
      match y with
      | (f, first) => callWith pos f first (backTo pos (starEach (e :: es) X.env)) (backToKw pos (keywordEach [] X.env))) := by rfl) : JEm X (.Call (.Attribute (.Name x p) m apos) (e :: es) [] pos) (aMethM i C m n W δ) := by
  obtain ⟨f, fd, ps, hF, hM, hB⟩ := c.ex
  obtain ⟨t, g1, g2⟩ := ha.ex
  refine ⟨_, pe_meth (pe_var hN hv hd hcd) hC hM hF hr hB .nil pass0 g1 hst hpl he, fun B F0 M T env σ H F R0 P p Q q => ?_⟩
  obtain ⟨φ, p1, one, ow, ins, p2⟩ := p
  obtain ⟨⟨v, h1, h2⟩, h3⟩ := R0.ln i φ p1
  obtain ⟨a, dx, fs, rfl, q1, q2⟩ := ins _ H F v h2
  refine ⟨_, h1, a, dx, fs, rfl, q1, q2, g2 B F0 M T env σ H F R0 _ p2 _ fun vs as H1 F1 s1 pr p3 => ?_⟩
  have R1 := R0.step s1
  obtain ⟨⟨v', h1', h2'⟩, h3'⟩ := R1.ln i φ p1
  rw [h1] at h1'
  cases Option.some.inj (Option.some.inj h1')
  refine ⟨F1, T, φ, .ref a, vs, as, _, by rw [List.append_nil], R1.bs, ow, h2', fun y hy => ⟨(h3' y hy).1, (h3' y hy).2.1, (h3' y hy).2.2.2.1⟩, pr, p3.1, p3.2, fun w d φ' H2 F2 to s at2 A2 rd pd => ?_⟩
  exact q w d _ H2 F2 (R1.lnMut p1 one s ow to.own.2 (fun u hu => by
    obtain ⟨a', _, _, e', _⟩ := ins _ _ _ u hu
    have : u = .ref a := by
      have hh := h2'
      exact (to.same hu at2).symm
    rw [this]; exact at2) A2) rd pd
end
end Ab
namespace Ab
open PySem PySem.Spec PyProof.Rows L2
/-- the exception at a, in a slot -/
def exT (a : Addr) : LnT where
  A := []
  own := false
  at_ := fun _ _ _ v => v = .ref a
  mono := fun h _ _ => h
theorem R.exc {K : KW} {B F0 : Hp} {M T : Tws K} {env : AE} {σ : L2.St} {H F : Hp} {i : Nat} {a : Addr} (r : R K B F0 M T env σ H F) (il : i < env.length) : R K B F0 M T (env.set i (.ln (exT a))) (σ.set i (some (.ref a))) H F :=
  r.putL il rfl fun x hx => by cases hx
end Ab
namespace Ab
open PySem PySem.Spec PyProof.Rows L2 L2H
abbrev WtE := Addr → (DD → Prop) → Prop
/-- what is promised to a caller in an except suite: the exception that is handled is of the class C -/
def Wants (K : KW) (W : WtE) (C : Addr) (H : Hp) (Q : VK) : Prop := ∃ (F : Hp) (T : Tws K) (Pd : DD → Prop), Bs T H F ∧ W C Pd ∧ ∀ v d H' F', Stp T H F H' F' → Rp K F' v d → Pd d → Q v H'
structure FnE (P : Program) (w : World) (K : PySem.W.Frag) (mg : Str → Option Value) (base : Heap) (k : Nat) (f : Addr) (fd : FuncData) (ps : List Str) (W : WtE) : Prop where
  len : ps.length = 1
  run : ∀ (A : Around) (outer : List Env) (s : Shared) (H : Hp) (args : Args) (Q : VK) (p : Addr × Obj) (C : Addr), RoomH k A → PinOk outer H s p → Zc (.ref C) none p.2 → (∃ vs, p.2.data = .fields vs) → Env0 P w K mg base A outer s H →
    BindsTo s fd args (ps.zip [.ref p.1]) → Wants ⟨K, P, w⟩ W C H Q → codeAny (model P w) A (.call (.ref f) args) (CR CX0 outer P w H s Q E0) s
theorem FnE.mono {P : Program} {w : World} {K : PySem.W.Frag} {mg : Str → Option Value} {base : Heap} {j k : Nat} {f : Addr} {fd : FuncData} {ps : List Str} {W : WtE} (h : FnE P w K mg base j f fd ps W) (l : j ≤ k) : FnE P w K mg base k f fd ps W :=
  ⟨h.len, fun A outer s H args Q p C r => h.run A outer s H args Q p C (r.mono l)⟩
end Ab
namespace Ab
open PySem PySem.Spec PyProof.Rows L2 L2H
section
variable {X : Cx} {e : Expr} {es : List Expr} {pos p p2 apos px : Pos} {x y n : Str} {k : Nat} {α β : AEx}
/-- isinstance(e, D), e the exception -/
theorem call_isP {a C : Addr} {oe : Obj} (hp : (a, oe) ∈ X.pn) (Cc : ExcC X.K C) (hz : Zc (.ref C) none oe) (hf : ∃ vs, oe.data = .fields vs) : CallR X (.builtin "isinstance") (rIsE X.K C a) := by
  intro pins s σ H xs us Q I r h
  obtain ⟨c, cv, b, rfl, hcv, e, q⟩ := h
  cases r with | cons rx rr =>
  cases rr with | cons rt rr =>
  cases rr
  cases rx
  have ec := hcv _ rt
  subst ec
  have hget := (I.pin (a, oe) (List.mem_append_left _ hp)).1
  obtain ⟨vs, hv⟩ := hf
  have J : PySem.W.InstAt s.heap a oe C none := by
    cases oe
    obtain ⟨rfl, rfl⟩ := hz
    cases hv
    exact ⟨hget, rfl, rfl, trivial⟩
  exact PySem.W.kia_one (PySem.W.handS_kitx_exc Cc.hg Cc.hk Cc.hs Cc.hd Cc.ha Cc.hn Cc.ht Cc.hm) I.kIn J e (fun z => nomatch z) fun tk => ⟨.bl b, H, I.kept (t' := tk) fun _ _ z => z, rfl, q⟩
def aIsE (K : PySem.W.Frag) (i : Nat) (a C : Addr) (cv : Value) : AEx := fun env P => env[i]? = some (.ln (exT a)) ∧ ∃ b, PySem.W.kitOne K (.ref C) cv = some b ∧ P (.bool b)
theorem je_isE {a C : Addr} {oe : Obj} {cv : Value} {c : V} (i : Nat) (hp : (a, oe) ∈ X.pn) (Cc : ExcC X.K C) (hz : Zc (.ref C) none oe) (hf : ∃ vs, oe.data = .fields vs) (hc : PE X (.Name y p2) (tC c)) (hcv : ∀ u, RelV c u → u = cv) (hm : X.mg x = none) (hv0 : bootBuiltins x = some (.builtin "isinstance"))
    (hg : Gl X x := by rfl) (hN : X.N[i]? = some n := by rfl) (hv : Vis X.env.scope n := by first | exact Or.inl rfl | exact Or.inr (Or.inl rfl) | exact Or.inr (Or.inr rfl)) (hd : (n == ("__debug__" : Str)) = false := by decide) (hcd : (n == ("__classdict__" : Str)) = false := by decide)
    (hn : x ≠ "__name__" := by decide) (hdb : (x == ("__debug__" : Str)) = false := by decide) (h1 : starEach [.Name n px, .Name y p2] X.env = (false, eval (.Name n px) X.env) :: starEach [.Name y p2] X.env := by rfl)
    (h2 : starEach [.Name y p2] X.env = (false, eval (.Name y p2) X.env) :: starEach [] X.env := by rfl) (hpl : (backTo pos (starEach [.Name y p2] X.env)).any (·.1) = false := by rfl) : JE X (.Call (.Name x p) [.Name n px, .Name y p2] [] pos) (aIsE X.K i a C cv) := by
  refine ⟨_, pe_callB (call_isP hp Cc hz hf) hg hm hv0 (pa_cons (pe_var hN hv hd hcd) (pa_cons hc pa_nil h2) h1) hn hdb h1 hpl, fun B F0 M T env σ H F R0 P p Q q => ?_⟩
  obtain ⟨p1, b, p2, p3⟩ := p
  obtain ⟨⟨v, g1, g2⟩, _⟩ := R0.ln i _ p1
  cases g2
  exact ⟨_, g1, c, cv, b, rfl, hcv, p2, q _ _ H F (.refl R0.bs) (.bl b) p3⟩
end
end Ab
namespace Ab
open PySem PySem.Spec PyProof.Rows L2
end Ab
namespace Ab
open PySem PySem.Spec PyProof.Rows L2 L2H
structure ClE (P : Program) (w : World) (K : PySem.W.Frag) (mg : Str → Option Value) (base : Heap) (k : Nat) (x : Str) (W : WtE) : Prop where
  ex : ∃ (f : Addr) (fd : FuncData) (ps : List Str), FnE P w K mg base k f fd ps W ∧ mg x = some (.ref f) ∧ PySem.W.keepIn K (.ref f) = true ∧ L2.Binds K fd ps []
theorem ClE.mono {P : Program} {w : World} {K : PySem.W.Frag} {mg : Str → Option Value} {base : Heap} {j k : Nat} {x : Str} {W : WtE} (h : ClE P w K mg base j x W) (l : j ≤ k) : ClE P w K mg base k x W := by
  obtain ⟨f, fd, ps, h1, h2⟩ := h.ex
  exact ⟨f, fd, ps, h1.mono l, h2⟩
end Ab
namespace Ab
open PySem PySem.Spec PyProof.Rows L2
end Ab
namespace Ab
open PySem PySem.Spec PyProof.Rows L2
section
variable {X : Cx} {pos p p2 px : Pos} {x y n : Str}
theorem je_isEo {a C D : Addr} {oe : Obj} (K0 : PySem.W.Frag) (i : Nat) (hp : (a, oe) ∈ X.pn) (Cc : ExcC X.K C) (hz : Zc (.ref C) none oe) (hf : ∃ vs, oe.data = .fields vs) (gy : X.mg y = some (.ref D)) (hm : X.mg x = none) (hv0 : bootBuiltins x = some (.builtin "isinstance"))
    (hK : X.K = K0 := by rfl) (hgy : Gl X y := by rfl) (hdy : (y == ("__debug__" : Str)) = false := by decide)
    (hg : Gl X x := by rfl) (hN : X.N[i]? = some n := by rfl) (hv : Vis X.env.scope n := by first | exact Or.inl rfl | exact Or.inr (Or.inl rfl) | exact Or.inr (Or.inr rfl)) (hd : (n == ("__debug__" : Str)) = false := by decide) (hcd : (n == ("__classdict__" : Str)) = false := by decide)
    (hn : x ≠ "__name__" := by decide) (hdb : (x == ("__debug__" : Str)) = false := by decide) (h1 : starEach [.Name n px, .Name y p2] X.env = (false, eval (.Name n px) X.env) :: starEach [.Name y p2] X.env := by rfl)
    (h2 : starEach [.Name y p2] X.env = (false, eval (.Name y p2) X.env) :: starEach [] X.env := by rfl) (hpl : (backTo pos (starEach [.Name y p2] X.env)).any (·.1) = false := by rfl) : JE X (.Call (.Name x p) [.Name n px, .Name y p2] [] pos) (aIsE K0 i a C (.ref D)) := by
  subst hK
  exact je_isE i hp Cc hz hf (pe_glob (v := .ref D) hgy gy rfl hdy) (fun _ h => h) hm hv0 hg hN hv hd hcd hn hdb h1 h2 hpl
end
end Ab
namespace Ab
open PySem PySem.Spec PyProof.Rows L2
end Ab
namespace Ab
open PySem PySem.Spec PyProof.Rows L2
end Ab
namespace Ab
open PySem PySem.Spec PyProof.Rows L2
structure LendOk (φ ψ : LnT) : Prop where
  nil : ψ.A = []
  own : φ.own = true
  at_ : ∀ (K : KW) (H F : Hp) (v : V), φ.at_ K H F v → (∀ x ∈ φ.A, F x = none) → ψ.at_ K H (lendL H F φ.A) v
end Ab
namespace Ab
open PySem PySem.Spec PyProof.Rows L2
structure ClXm (P : Program) (w : World) (K : PySem.W.Frag) (mg : Str → Option Value) (base : Heap) (k : Nat) (C : Addr) (m : Str) (n : Nat) (W : WtX) : Prop where
  ex : ∃ (f : Addr) (fd : FuncData) (ps : List Str), FnOk P w K mg base (L2.CX P w) k f fd ps (spX ⟨K, P, w⟩ n W) ∧ Meth K C m f ∧ Binds K fd ps []
structure ClXn (P : Program) (w : World) (K : PySem.W.Frag) (mg : Str → Option Value) (base : Heap) (k : Nat) (x : Str) (C : Addr) (n : Nat) (W : WtX) : Prop where
  ex : ∃ (f : Addr) (fd : FuncData) (ps : List Str), FnOk P w K mg base (L2.CX P w) k f fd ps (spX ⟨K, P, w⟩ n W) ∧ Mk K C f ∧ mg x = some (.ref C) ∧ Binds K fd ps []
section
variable {P : Program} {w : World} {K : PySem.W.Frag} {mg : Str → Option Value} {base : Heap} {j k : Nat} {C : Addr} {m x : Str} {n : Nat} {W : WtX}
theorem ClXm.mono (h : ClXm P w K mg base j C m n W) (l : j ≤ k) : ClXm P w K mg base k C m n W := by
  obtain ⟨f, fd, ps, h1, h2⟩ := h.ex
  exact ⟨f, fd, ps, h1.mono l, h2⟩
theorem ClXn.mono (h : ClXn P w K mg base j x C n W) (l : j ≤ k) : ClXn P w K mg base k x C n W := by
  obtain ⟨f, fd, ps, h1, h2⟩ := h.ex
  exact ⟨f, fd, ps, h1.mono l, h2⟩
end
end Ab
namespace Ab
open PySem PySem.Spec PyProof.Rows L2
theorem R.unv {K : KW} {B F0 : Hp} {M T : Tws K} {env : AE} {σ : L2.St} {H F : Hp} (i : Nat) (o : Option V) (r : R K B F0 M T env σ H F) : R K B F0 M T (env.set i .un) (σ.set i o) H F := by
  have at_ : ∀ {j : Nat} {s : Sl}, (env.set i .un)[j]? = some s → s ≠ .un → i ≠ j ∧ env[j]? = some s := fun {j s} e n => by
    by_cases q : i = j
    · subst q
      have hl : i < env.length := by
        have := (List.getElem?_eq_some_iff.mp e).1
        rwa [List.length_set] at this
      rw [List.getElem?_set_self hl] at e
      exact absurd (Option.some.inj e).symm n
    · rw [List.getElem?_set_ne q] at e
      exact ⟨q, e⟩
  refine ⟨r.toGd, by rw [List.length_set, List.length_set]; exact r.len, fun j d e => ?_, fun j ds e => ?_, fun j kk e => ?_, fun j ns e => ?_, fun j k ds es a h1 h2 h3 h4 => ?_, r.lnS (fun φ z => by cases z) (fun g a z => by cases z)⟩
  · obtain ⟨q, e⟩ := at_ e (by intro z; cases z)
    rw [List.getElem?_set_ne q]; exact r.va j d e
  · obtain ⟨q, e⟩ := at_ e (by intro z; cases z)
    rw [List.getElem?_set_ne q]; exact r.og j ds e
  · obtain ⟨q, e⟩ := at_ e (by intro z; cases z)
    rw [List.getElem?_set_ne q]; exact r.ti j kk e
  · obtain ⟨q, e⟩ := at_ e (by intro z; cases z)
    rw [List.getElem?_set_ne q]; exact r.sc j ns e
  · obtain ⟨q1, h1⟩ := at_ h1 (by intro z; cases z)
    obtain ⟨q2, h2⟩ := at_ h2 (by intro z; cases z)
    rw [List.getElem?_set_ne q1] at h3
    rw [List.getElem?_set_ne q2] at h4
    exact r.di j k ds es a h1 h2 h3 h4
end Ab
namespace Ab
open PySem PySem.Spec PyProof.Rows L2
section
variable {X : Cx} {pos px : Pos} {x f : Str}
/-- a field of a thing that is settled -/
def FldZ (φ : LnT) (f : Str) (d : DD) : Prop := ∀ (K : KW) (H F : Hp) (v : V), Sub F H → φ.at_ K H F v → ∃ (a C dx : Addr) (fs : List (Str × V)) (u : V), v = .ref a ∧ H a = some (.ins C dx fs) ∧ Cls K C ∧ NoAttr K C f ∧ fs.lookup f = some u ∧ Rp K F u d
def aFldZ (i : Nat) (f : Str) : AEx := fun env P => ∃ φ d, env[i]? = some (.ln φ) ∧ FldZ φ f d ∧ P d
theorem je_fldZ (i : Nat) (hN : X.N[i]? = some x := by rfl) (hv : Vis X.env.scope x := by first | exact Or.inl rfl | exact Or.inr (Or.inl rfl) | exact Or.inr (Or.inr rfl)) (hd : (x == ("__debug__" : Str)) = false := by decide)
    (hcd : (x == ("__classdict__" : Str)) = false := by decide) (hb : attributeBase (.Name x px) f X.env (eval (.Name x px) X.env) = eval (.Name x px) X.env := by rfl) : JE X (.Attribute (.Name x px) f pos) (aFldZ i f) := by
  refine ⟨_, pe_fld (pe_var hN hv hd hcd) hb, fun B F0 M T env σ H F R0 P p Q q => ?_⟩
  obtain ⟨φ, d, p1, p2, p3⟩ := p
  obtain ⟨⟨v, h1, h2⟩, _⟩ := R0.ln i φ p1
  obtain ⟨a, C, dx, fs, u, rfl, g1, g2, g3, g4, g5⟩ := p2 _ H F v R0.sub h2
  exact ⟨_, h1, a, C, dx, fs, u, rfl, g1, g2, g3, g4, q u d H F (.refl R0.bs) g5 p3⟩
end
end Ab
namespace PySem.W
open PySem PySem.Spec PyProof.Rows PySem.SeqAt
section
variable {M : Model} {prog : Program} {w : World} {A : Around} {E : Value → Shared → Prop} {s : Shared} {K : Frag} {x C f L : Addr} {ox : Obj} {od : Option Obj} {b tb : Value} {h₀ : Heap} {m : Str → Option Value}
theorem neEntry {Q : Fin → Shared → Prop} (hu : A.units < cLine) (X : K.In s.heap) (I : InstAt s.heap x ox C od) (hs : findIn K (.ref C) "__eq__" = some (some (.ref f))) (hf : isFn K (.ref f) = true)
    (h : wpAny (model prog w) A (call (.ref f) [.ref x, b]) (fun v s' => ∃ r, v = .bool r ∧ Q (.done (.ret (.bool (!r)))) s') E s) : wpAny (model prog w) A (Builtin.«object.__ne__» ⟨[.ref x, b], []⟩) Q E s := by
  unfold Builtin.«object.__ne__»
  repeat (first
    | with_reducible refine wpAny_cRoomFor hu ?_
    | (refine wpAny_bind (m := callSpecialIfBound? (.ref x) (Str.ofString "__eq__") [b])
        (ifBound_K X I hs hf (wpAny_mono h (fun r s' hr => by
          obtain ⟨b, rfl, hq⟩ := hr
          repeat (first | exact hq | exact wpAny_pure hq | exact wpAny_truthy_bool hq | (refine wpAny_bind (m := truthy (.bool _)) (wpAny_truthy_bool ?_)) | wp_step)) fun _ _ e => e)))
    | wp_step)
theorem callNe {Q : Value → Shared → Prop} (hu : A.units + 1 < cLine) (X : K.In s.heap) (I : InstAt s.heap x ox C od) (hm : mroIn K C (.type "object") = some true) (hs : findIn K (.ref C) "__eq__" = some (some (.ref f))) (hf : isFn K (.ref f) = true)
    (h : wpAny (model prog w) A.in1 (call (.ref f) [.ref x, b]) (fun v s' => ∃ r, v = .bool r ∧ Q (.bool (!r)) s') E s) :
    wpAny (model prog w) A (call (.builtin "object.__ne__") [.ref x, b]) Q E s :=
  wpAny_call (codeAny_call_builtin F.cmp_object.ne.plain F.cmpEntry_ne (check_slot F.cmpKind_ne F.cmpSplit_ne (I.type.andThen (looks_mroIn X hm)) (F.cmpArgs_ne _ _) (neEntry (A := A.in1) hu X I hs hf (wpAny_mono h (fun v s' hv => hv) fun _ _ e => e))))
theorem ifBoundNe {args : List Value} {Q : Option Value → Shared → Prop} (X : K.In s.heap) (I : InstAt s.heap x ox C od) (hs : findIn K (.ref C) "__ne__" = some (some (.builtin "object.__ne__")))
    (h : wpAny M A (call (.builtin "object.__ne__") (.ref x :: args)) (fun v => Q (some v)) E s) : wpAny M A (callSpecialIfBound? (.ref x) "__ne__" args) Q E s := by
  simp only [callSpecialIfBound?, bindSpecialIfBound?]
  refine wpAny_holding (wpAny_bind (wpAny_bind (wpAny_bind (I.type.here ((looks_findIn X hs).here ?_)))))
  refine wpAny_bind (wpAny_askSetting (wpAny_ite ?_))
  have fin : wpAny M A (call (.builtin "object.__ne__") ([.ref x] ++ args) >>= fun v => pure (some v)) Q E s := wpAny_bind (wpAny_mono h (fun v s' h' => wpAny_pure h') fun _ _ h' => h')
  split
  · exact wpAny_bind (wpAny_of_eq (F.cmp_object.ne.bind _) (wpAny_pure (by exact fin)))
  · exact wpAny_tryCatch (wpAny_bind (wpAny_of_eq (F.cmp_object.ne.bind _) (wpAny_pure (by exact fin))))
theorem ne_K {Q : Value → Shared → Prop} (hu : A.units + 1 < cLine) (F : Fr h₀ L s.heap m) (X₀ : K.In h₀) (I : InstAt s.heap x ox C od) (hb : Looks (model prog w) s.heap (typeOf b) tb) (hn : notFirst K C tb = true)
    (hm : mroIn K C (.type "object") = some true) (hne : findIn K (.ref C) "__ne__" = some (some (.builtin "object.__ne__"))) (hs : findIn K (.ref C) "__eq__" = some (some (.ref f))) (hf : isFn K (.ref f) = true)
    (h : wpAny (model prog w) A.in1 (call (.ref f) [.ref x, b]) (fun v s' => ∃ r, v = .bool r ∧ Q (.bool (!r)) s') E s) : wpAny (model prog w) A (richCompare .NotEq (.ref x) b) Q E s := by
  have X := X₀.keeps F.keep
  have one : wpAny (model prog w) A (tryCompare (.ref x) "__ne__" b) (fun r s' => ∃ v, r = some v ∧ Q v s') E s := by
    unfold tryCompare
    refine wpAny_bind (ifBoundNe X I hne (callNe hu X I hm hs hf (wpAny_mono h (fun v s' hv => ?_) fun _ _ e => e)))
    obtain ⟨r, rfl, hq⟩ := hv
    exact ⟨r, rfl, wpAny_pure ⟨_, rfl, hq⟩⟩
  unfold richCompare
  rw [cmpInfo_NotEq]
  simp only [oneThing_ref]
  refine wpAny_holding (wpAny_bind (wpAny_cRoomFor (Nat.lt_of_succ_lt hu) ?_))
  refine wpAny_bind (I.type.here (wpAny_bind (hb.here ?_)))
  split
  · rename_i q
    have e : subIn K tb (.ref C) = some false := by
      rcases Bool.or_eq_true_iff.mp hn with e | e
      · rw [beq_iff_eq.mp e] at q; simp at q
      · exact beq_iff_eq.mp e
    refine wpAny_bind ((looks_subIn X e).here ?_)
    simp only [Bool.false_eq_true, if_false]
    refine wpAny_bind (wpAny_mono one (fun r s' z => ?_) fun _ _ e => e)
    obtain ⟨v, rfl, hq⟩ := z
    exact wpAny_pure hq
  · refine wpAny_bind (wpAny_pure ?_)
    simp only [Bool.false_eq_true, if_false]
    refine wpAny_bind (wpAny_mono one (fun r s' z => ?_) fun _ _ e => e)
    obtain ⟨v, rfl, hq⟩ := z
    exact wpAny_pure hq
end
end PySem.W
namespace Ab
open PySem PySem.Spec PyProof.Rows L2
/-- what is known of a class with an own __eq__ -/
structure EqCls (K : PySem.W.Frag) (C f : Addr) : Prop where
  cls : Cls K C
  eq : PySem.W.findIn K (.ref C) "__eq__" = some (some (.ref f))
  fn : PySem.W.isFn K (.ref f) = true
  ne : PySem.W.findIn K (.ref C) "__ne__" = some (some (.builtin "object.__ne__"))
  mr : PySem.W.mroIn K C (.type "object") = some true
  cl : PySem.W.findIn K (.ref C) "__class__" = some (some (.builtin "object.__class__"))
  sp : PySem.W.specialIn K (.builtin "object.__class__") "__get__" = some (some (.builtin "getset_descriptor.__get__"))
  tk : PySem.W.takesIn K (.builtin "object.__class__") = some true
  ci : ((PySem.W.clsIn K C).isSome && PySem.W.typeIn K (.ref C) == some (.type "type")) = true
theorem sub_int {K : PySem.W.Frag} {C : Addr} : PySem.W.subIn K (.type "int") (.ref C) = some false := by
  have e : fastBuiltinMro "int" = some [.type "int", .type "object"] := by decide +kernel
  show (fastBuiltinMro "int").map (·.contains (.ref C)) = some false
  rw [e]
  first
    | rfl
    | simp
theorem sub_list {K : PySem.W.Frag} {C : Addr} : PySem.W.subIn K (.type "list") (.ref C) = some false := by
  have e : fastBuiltinMro "list" = some [.type "list", .type "object"] := by decide +kernel
  show (fastBuiltinMro "list").map (·.contains (.ref C)) = some false
  rw [e]
  first
    | rfl
    | simp
def RtOk (H : Hp) (C : Addr) (y : V) : Prop := (∃ i, y = .int i) ∨ (∃ b dy gs, y = .ref b ∧ H b = some (.ins C dy gs)) ∨ ∃ b xs, y = .ref b ∧ H b = some (.lst xs)
def rOwn (neg : Bool) (C : Addr) (sp : Sp) : R2 := fun x y H Q => ∃ a dx fs, x = .ref a ∧ H a = some (.ins C dx fs) ∧ RtOk H C y ∧ sp [x, y] H (fun v H' => ∃ b, v = .bl b ∧ Q (.bl (b != neg)) H') E0
section
variable {X : Cx} {n : Nat} {C f : Addr} {fd : FuncData} {ps : List Str} {sp : Sp} {pins : List (Addr × Obj)} {σ : L2.St} {H : Hp} {s : Shared} {a : Addr} {y : V} {u : Value}
theorem own_call {A : Around} {Q : Bool → Hp → Prop} (F : FnOk X.prog X.w X.K X.mg X.base CX0 n f fd ps sp) (hb : Binds X.K fd ps []) (sb : L2.Sub X n A) (I : Inv X pins σ H s) (rv : RelV y u) (hsp : sp [.ref a, y] H (fun v H' => ∃ b, v = .bl b ∧ Q b H') E0) :
    wpAny (model X.prog X.w) A (call (.ref f) [.ref a, u]) (fun v s' => ∃ b, v = .bool b ∧ ∃ H', Inv X pins σ H' s' ∧ Q b H') X.xe s := by
  have e0 : Env0 X.prog X.w X.K X.mg X.base A X.stack s H := by
    have e := I.env0
    exact ⟨by rw [sb.fr]; exact e.frames, e.mod, e.bs, e.bsz, e.funs, e.frf, e.hok, e.bare⟩
  have hl := F.len _ _ _ _ hsp
  have r2 : Vals [V.ref a, y] [Value.ref a, u] := .cons rfl (.cons rv .nil)
  refine wpAny_call (codeAny_mono (F.run A X.stack s H ⟨[.ref a, u], []⟩ [.ref a, u] [.ref a, y] _ E0 sb.room e0 (by
    have := hb s [.ref a, u] I.kIn (by simpa using hl)
    simpa using this) r2 hsp) fun r s' hq => ?_)
  cases r with
  | error e => exact hq.elim
  | ok fl =>
    cases fl with
    | ret w =>
      obtain ⟨z, H', I', rz, b, ez, q⟩ := I.after hq
      subst ez
      cases rz
      exact ⟨b, rfl, H', I', q⟩
    | next => exact False.elim hq
    | brk => exact False.elim hq
    | cont => exact False.elim hq
theorem rt_look (I : Inv X pins σ H s) (rv : RelV y u) (h : RtOk H C y) : ∃ tb, PySem.W.Looks (model X.prog X.w) s.heap (typeOf u) tb ∧ PySem.W.notFirst X.K C tb = true := by
  rcases h with ⟨i, rfl⟩ | ⟨b, dy, gs, rfl, hb⟩ | ⟨b, xs, rfl, hb⟩
  · obtain ⟨t, rfl⟩ := (show ∃ t, u = Value.int i t from rv)
    exact ⟨.type "int", .now, by simp [PySem.W.notFirst, sub_int]⟩
  · cases rv
    obtain ⟨mB, J, _⟩ := ins_get I.hok hb
    obtain ⟨od, J, _⟩ := J.look
    exact ⟨.ref C, J.type, by simp [PySem.W.notFirst]⟩
  · cases rv
    obtain ⟨_, _, n, _, h1⟩ := (show ObjOk X.prog X.w H s.heap b (.lst xs) from I.hok b _ hb)
    exact ⟨.type "list", (PySem.W.Looks.ld h1).andThen .now, by simp [PySem.W.notFirst, sub_list]⟩
theorem op_ownEq (F : FnOk X.prog X.w X.K X.mg X.base CX0 n f fd ps sp) (c : EqCls X.K C f) (hb : Binds X.K fd ps []) (hr : Room (n + 1) X.A) : OpR X (compareOp .Eq) (rOwn false C sp) := by
  intro pins s σ H x y v u Q I rx ry hq
  obtain ⟨a, dx, fs, rfl, ha, rt, hsp⟩ := hq
  cases rx
  obtain ⟨mA, J, _⟩ := ins_get I.hok ha
  obtain ⟨od, J, _⟩ := J.look
  obtain ⟨tb, lk, nf⟩ := rt_look I ry rt
  have sb : L2.Sub X n X.A := ⟨hr.mono (Nat.le_succ n), rfl⟩
  obtain ⟨m, hF⟩ := I.fr
  show wpAny (model X.prog X.w) X.A (richCompare .Eq (.ref a) u) (EP X pins σ Q) X.xe s
  refine PySem.W.cmp_K (op := .Eq) (tb := tb) sb.room.units0 hF I.ok.mod.kin J lk nf c.eq c.fn (wpAny_mono (own_call F hb sb I ry hsp) (fun v s' hv => ?_) fun _ _ e => e)
  obtain ⟨b, rfl, H', I', q⟩ := hv
  exact ⟨.bl _, H', I', (by cases b <;> exact rfl), q⟩
theorem op_ownNe (F : FnOk X.prog X.w X.K X.mg X.base CX0 n f fd ps sp) (c : EqCls X.K C f) (hb : Binds X.K fd ps []) (hr : Room (n + 1) X.A) : OpR X (compareOp .NotEq) (rOwn true C sp) := by
  intro pins s σ H x y v u Q I rx ry hq
  obtain ⟨a, dx, fs, rfl, ha, rt, hsp⟩ := hq
  cases rx
  obtain ⟨mA, J, _⟩ := ins_get I.hok ha
  obtain ⟨od, J, _⟩ := J.look
  obtain ⟨tb, lk, nf⟩ := rt_look I ry rt
  have sb : L2.Sub X (n + 1) X.A := ⟨hr, rfl⟩
  obtain ⟨m, hF⟩ := I.fr
  show wpAny (model X.prog X.w) X.A (richCompare .NotEq (.ref a) u) (EP X pins σ Q) X.xe s
  refine PySem.W.ne_K (tb := tb) sb.in1.room.units0 hF I.ok.mod.kin J lk nf c.mr c.ne c.eq c.fn (wpAny_mono (own_call F hb sb.in1 I ry hsp) (fun v s' hv => ?_) fun _ _ e => e)
  obtain ⟨b, rfl, H', I', q⟩ := hv
  exact ⟨b, rfl, .bl _, H', I', (by cases b <;> exact rfl), q⟩
end
end Ab
namespace Ab
open PySem PySem.Spec PyProof.Rows L2
/-- the other such things share nothing with A -/
def Apart (env : AE) (i : Nat) (A : List Addr) : Prop := ∀ (j : Nat) (ψ : LnT), j ≠ i → env[j]? = some (.ln ψ) → ∀ x ∈ ψ.A, x ∉ A
theorem apart_no {env : AE} {i : Nat} {A : List Addr} (h : noLn env i = true) : Apart env i A := fun j ψ hj e => absurd (noLn_of h e) hj
section
variable {K : KW} {B F0 : Hp} {M T : Tws K} {env : AE} {σ : L2.St} {H F H' F' : Hp}
theorem R.lnMutA {i : Nat} {φ φ' : LnT} (r : R K B F0 M T env σ H F) (hi : env[i]? = some (.ln φ)) (one : Apart env i φ.A) (s : StpA T φ.A H F H' F') (ow : φ.own = true) (ow' : φ'.own = true)
    (hv : ∀ v, φ.at_ K H F v → φ'.at_ K H' F' v) (hA : ∀ x ∈ φ'.A, (∃ o, H' x = some o) ∧ F' x = none ∧ (x ∈ φ.A ∨ H x = none)) : R K B F0 M T (env.set i (.ln φ')) σ H' F' := by
  have il : i < env.length := (List.getElem?_eq_some_iff.mp hi).1
  obtain ⟨⟨v, e1, e2⟩, e3⟩ := r.ln i φ hi
  have hF : ∀ x o, H x = some o → F x = none → F' x = none := fun x o ho hf => by
    cases q : F' x with
    | none => rfl
    | some u =>
      rcases s.new x u q with z | z
      · rw [hf] at z; cases z
      · rw [ho] at z; cases z
  have hn : ∀ x ∈ φ.A, B x = none ∧ ¬ T x := fun x hx => ⟨(e3 x hx).2.2.1 ow, (e3 x hx).2.2.2.1⟩
  have at_ : ∀ {j : Nat} {s : Sl}, (env.set i (.ln φ'))[j]? = some s → (i = j ∧ s = .ln φ') ∨ (i ≠ j ∧ env[j]? = some s) := fun {j s} he => by
    by_cases q : i = j
    · subst q
      rw [List.getElem?_set_self il] at he
      exact .inl ⟨rfl, (Option.some.inj he).symm⟩
    · rw [List.getElem?_set_ne q] at he
      exact .inr ⟨q, he⟩
  refine ⟨⟨s.sub, r.f0.trans s.ext, fun a o e => ?_, fun a o e m => ?_, fun a t => ?_, r.mt⟩, by rw [List.length_set]; exact r.len, fun j d e => ?_, fun j g e => ?_, fun j k e => ?_, fun j ns e => ?_, fun j k g g' a h1 h2 h3 h4 => ?_, fun j ψ e => ?_⟩
  · rcases s.new a o e with z | z
    · exact r.new a o z
    · exact .inr (r.toGd.dom z)
  · refine s.keep a o (r.keep a o e m) (fun t => ?_) (fun z => ?_)
    · rcases (r.tw a t).2.2 with z | z
      · exact m z
      · rw [e] at z; cases z
    · rw [(hn a z).1] at e; cases e
  · obtain ⟨o, z⟩ := Tws.has (r.tw a t).2.1
    exact ⟨hF a o z (r.tw a t).1, s.tc a t, (r.tw a t).2.2⟩
  · rcases at_ e with ⟨_, z⟩ | ⟨_, z⟩
    · cases z
    · obtain ⟨v, h1, h2⟩ := r.va j d z
      exact ⟨v, h1, Rp.sub s.ext _ h2⟩
  · rcases at_ e with ⟨_, z⟩ | ⟨_, z⟩
    · cases z
    · obtain ⟨a, u, h1, h2, h3, h4, h5, h6⟩ := r.og j g z
      refine ⟨a, u, h1, s.keep a u h2 h5 (fun y => (e3 a y).2.2.2.2 j g z h1), hF a u h2 h3, h4, h5, h6.sub s.ext⟩
  · rcases at_ e with ⟨_, z⟩ | ⟨_, z⟩
    · cases z
    · exact r.ti j k z
  · rcases at_ e with ⟨_, z⟩ | ⟨_, z⟩
    · cases z
    · obtain ⟨a, h1, h2⟩ := r.sc j ns z
      exact ⟨a, h1, s.ext.seqL h2⟩
  · rcases at_ h1 with ⟨_, z⟩ | ⟨_, z1⟩
    · cases z
    · rcases at_ h2 with ⟨_, z⟩ | ⟨_, z2⟩
      · cases z
      · exact r.di j k g g' a z1 z2 h3 h4
  · rcases at_ e with ⟨q, z⟩ | ⟨q, z⟩
    · subst q; cases z
      refine ⟨⟨v, e1, hv v e2⟩, fun x hx => ?_⟩
      obtain ⟨a1, a2, a3⟩ := hA x hx
      refine ⟨a1, a2, fun _ => ?_, ?_, fun j g he => ?_⟩
      · rcases a3 with a3 | a3
        · exact (hn x a3).1
        · exact r.toGd.dom a3
      · rcases a3 with a3 | a3
        · exact (hn x a3).2
        · intro t
          obtain ⟨o, z⟩ := Tws.has (r.tw x t).2.1
          rw [a3] at z; cases z
      · rcases at_ he with ⟨_, z⟩ | ⟨_, z⟩
        · cases z
        · rcases a3 with a3 | a3
          · exact (e3 x a3).2.2.2.2 j g z
          · intro h
            obtain ⟨a, u, h1, h2, _⟩ := r.og j g z
            rw [h] at h1
            have : x = a := by
              have := Option.some.inj (Option.some.inj h1)
              injection this
            subst this
            rw [a3] at h2; cases h2
    · obtain ⟨⟨w, k1, k2⟩, k3⟩ := r.ln j ψ z
      have off : ∀ x ∈ ψ.A, x ∉ φ.A := one j ψ (fun y => q y.symm) z
      refine ⟨⟨w, k1, ψ.mono k2 (fun x hx => ?_) s.ext⟩, fun x hx => ?_⟩
      · obtain ⟨⟨o, ho⟩, _, _, nt, _⟩ := k3 x hx
        rw [ho]; exact s.keep x o ho nt (off x hx)
      · obtain ⟨⟨o, ho⟩, hf, hb, nt, hg⟩ := k3 x hx
        refine ⟨⟨o, s.keep x o ho nt (off x hx)⟩, hF x o ho hf, hb, nt, fun m g he => ?_⟩
        rcases at_ he with ⟨_, y⟩ | ⟨_, y⟩
        · cases y
        · exact hg m g y
end
theorem R.lendA {K : KW} {B F0 : Hp} {M T : Tws K} {env : AE} {σ : L2.St} {H F : Hp} {i : Nat} {φ ψ : LnT} (r : R K B F0 M T env σ H F) (hi : env[i]? = some (.ln φ)) (one : Apart env i φ.A) (l : LendOk φ ψ) :
    R K B F M T (env.set i (.ln ψ)) σ H (lendL H F φ.A) ∧ Sub F (lendL H F φ.A) := by
  have il : i < env.length := (List.getElem?_eq_some_iff.mp hi).1
  obtain ⟨⟨v, e1, e2⟩, e3⟩ := r.ln i φ hi
  have sb : Sub F (lendL H F φ.A) := fun a o e => by
    unfold lendL
    by_cases q : a ∈ φ.A
    · rw [(e3 a q).2.1] at e; cases e
    · rw [if_neg q]; exact e
  have off : ∀ a, a ∉ φ.A → lendL H F φ.A a = F a := fun a q => by unfold lendL; rw [if_neg q]
  have at_ : ∀ {j : Nat} {s : Sl}, (env.set i (.ln ψ))[j]? = some s → (i = j ∧ s = .ln ψ) ∨ (i ≠ j ∧ env[j]? = some s) := fun {j s} he => by
    by_cases q : i = j
    · subst q
      rw [List.getElem?_set_self il] at he
      exact .inl ⟨rfl, (Option.some.inj he).symm⟩
    · rw [List.getElem?_set_ne q] at he
      exact .inr ⟨q, he⟩
  refine ⟨⟨⟨fun a o e => ?_, sb, fun a o e => ?_, r.keep, fun a t => ?_, r.mt⟩, by rw [List.length_set]; exact r.len, fun j d e => ?_, fun j g e => ?_, fun j k e => ?_, fun j ns e => ?_, fun j k g g' a h1 h2 h3 h4 => ?_, fun j χ e => ?_⟩, sb⟩
  · by_cases q : a ∈ φ.A
    · unfold lendL at e; rw [if_pos q] at e; exact e
    · rw [off a q] at e; exact r.sub a o e
  · by_cases q : a ∈ φ.A
    · exact .inr ((e3 a q).2.2.1 l.own)
    · rw [off a q] at e; exact .inl e
  · rw [off a fun q => (e3 a q).2.2.2.1 t]
    exact r.tw a t
  · rcases at_ e with ⟨_, z⟩ | ⟨_, z⟩
    · cases z
    · obtain ⟨v, h1, h2⟩ := r.va j d z
      exact ⟨v, h1, Rp.sub sb _ h2⟩
  · rcases at_ e with ⟨_, z⟩ | ⟨_, z⟩
    · cases z
    · obtain ⟨a, u, h1, h2, h3, h4, h5, h6⟩ := r.og j g z
      exact ⟨a, u, h1, h2, by rw [off a fun q => (e3 a q).2.2.2.2 j g z h1]; exact h3, h4, h5, h6.sub sb⟩
  · rcases at_ e with ⟨_, z⟩ | ⟨_, z⟩
    · cases z
    · exact r.ti j k z
  · rcases at_ e with ⟨_, z⟩ | ⟨_, z⟩
    · cases z
    · obtain ⟨a, h1, h2⟩ := r.sc j ns z
      exact ⟨a, h1, sb.seqL h2⟩
  · rcases at_ h1 with ⟨_, z⟩ | ⟨_, z1⟩
    · cases z
    · rcases at_ h2 with ⟨_, z⟩ | ⟨_, z2⟩
      · cases z
      · exact r.di j k g g' a z1 z2 h3 h4
  · rcases at_ e with ⟨q, z⟩ | ⟨q, z⟩
    · subst q; cases z
      exact ⟨⟨v, e1, l.at_ _ _ _ _ e2 fun x hx => (e3 x hx).2.1⟩, fun x hx => absurd hx (by rw [l.nil]; simp)⟩
    · obtain ⟨⟨w, k1, k2⟩, k3⟩ := r.ln j χ z
      have oa : ∀ x ∈ χ.A, x ∉ φ.A := one j χ (fun y => q y.symm) z
      refine ⟨⟨w, k1, χ.mono k2 (fun _ _ => rfl) sb⟩, fun x hx => ?_⟩
      obtain ⟨h1, h2, h3, h4, h5⟩ := k3 x hx
      refine ⟨h1, by rw [off x (oa x hx)]; exact h2, h3, h4, fun m g he => ?_⟩
      rcases at_ he with ⟨_, y⟩ | ⟨_, y⟩
      · cases y
      · exact h5 m g y
def aBorA (i : Nat) (τ : ATx) : ATx := fun env P => ∃ φ ψ, env[i]? = some (.ln φ) ∧ Apart env i φ.A ∧ LendOk φ ψ ∧ τ (env.set i (.ln ψ)) P
theorem jt_borA {X : Cx} {e : Expr} (i : Nat) {τ : ATx} (h : JT X e τ) : JT X e (aBorA i τ) := by
  obtain ⟨t, a1, a2⟩ := h.ex
  refine ⟨t, a1, fun B F0 M T env σ H F R0 P p Q q => ?_⟩
  obtain ⟨φ, ψ, p1, p2, l, p3⟩ := p
  obtain ⟨R1, sb⟩ := R0.lendA p1 p2 l
  exact a2 B F M T _ σ H _ R1 P p3 Q fun b H' F' s pb => q b H' F ⟨fun a o z => s.sub a o (s.ext a o (sb a o z)), Sub.refl F, fun _ _ h => .inl h, s.keep, s.tc⟩ pb
abbrev AXmx := AE → (DD → AE → Prop) → (Addr → AE → Prop) → Prop
def canEXm (K : KW) (α : AXmx) (W : WX) : TE := fun σ H Q => ∃ B F0 M T env F, R K B F0 M T env σ H F ∧ ∃ P PE, α env P PE ∧ (∀ v d env' H' F', R K B F0 M T env' σ H' F' → Rp K F' v d → P d env' → Q v H') ∧ ∀ C env' H' F', R K B F0 M T env' σ H' F' → PE C env' → W (.ref C) none σ H'
structure JEXm (X : Cx) (e : Expr) (α : AXmx) : Prop where ex : ∀ W, Takes X W → PE X e (canEXm (kw X) α W)
section
variable {X : Cx} {e c a b : Expr} {pos p : Pos} {α β : AXmx} {τ : ATx}
theorem jxm_if (h : JT X c τ) (ha : JEXm X a α) (hb : JEXm X b β) : JEXm X (.IfExp c a b p) (fun env P PE => τ env fun k => (k = true → α env P PE) ∧ (k = false → β env P PE)) := ⟨fun W tk => by
  obtain ⟨t, h1, h2⟩ := h.ex
  refine pe_imp (pe_ifExp h1 (ha.ex W tk) (hb.ex W tk)) fun σ H Q ⟨B, F0, M, T, env, F, R0, P, PE, p, q, r⟩ => ?_
  refine h2 B F0 M T env σ H F R0 _ p _ fun k H1 F1 s1 p1 => ?_
  cases k with
  | true => exact (if_pos rfl).mpr ⟨B, F0, M, T, env, F1, R0.step s1, P, PE, p1.1 rfl, q, r⟩
  | false => exact (if_neg Bool.false_ne_true).mpr ⟨B, F0, M, T, env, F1, R0.step s1, P, PE, p1.2 rfl, q, r⟩⟩
def aRetXm (α : AXmx) : ASxx := fun A PE env => α env (fun d env' => A.rtE d env') PE
theorem js_retXm (h : JEXm X e α) : JSX X (.Return (some e) pos) (aRetXm α) := ⟨fun W tk =>
  ps_imp (ps_ret (h.ex W tk)) fun D σ H ⟨B, F0, M, T, env, F, R0, A, PE, l, xc, p⟩ =>
    ⟨B, F0, M, T, env, F, R0, _, _, p, fun v d env' H' F' R1 d1 p1 => l.rtE T v d env' σ H' F' R1 d1 p1, fun C env' H' F' R1 p1 => xc T C env' σ H' F' R1 p1⟩⟩
end
def aTryE (i : Nat) (ok : Addr → Prop) (a : ASxx) (u : Addr → Addr → ASx) : ASx := fun A env => i < env.length ∧ a { nx := fun _ => False, rt := A.rt, rtE := A.rtE } (fun C env' => ok C ∧ env'.length = env.length ∧ ∀ x, u x C { nx := fun _ => False, rt := A.rt, rtE := A.rtE } (env'.set i (.ln (exT x)))) env
theorem js_tryE {X : Cx} {x n : Str} {c : Value} {body suite : List Stmt} {b₀ : Stmt} {np pos pos' : Pos} {a : ASxx} {u : Addr → Addr → ASx} {ok : Addr → Prop} (i : Nat) (hN : X.N.Nodup) (hc : Names X x c) (hok : ∀ C, ok C → PySem.W.exmOne X.K (.ref C) c = some true)
    (hb : ∀ pn xe, JSXs (X.tr pn xe) body a) (hu : ∀ e oe C pn, Zc (.ref C) none oe → (∃ vs, oe.data = .fields vs) → ok C → JSs (X.suite e ((e, oe) :: pn)) (b₀ :: suite) (u e C))
    (hs : X.stack = X.env :: X.outer := by rfl) (hf : X.env.frame = some X.env.locals := by rfl) (hi : X.N[i]? = some n := by rfl) (hln : X.env.kindOf n = some .local := by rfl) :
    JS X (.Try body [.ExceptHandler (some (.Name x np)) (some n) (b₀ :: suite) pos'] [] [] pos) (aTryE i ok a u) := by
  refine ⟨_, ps_try_as (i := i) (tb := fun W => canSX (kw X) a W) (ts := fun e cls d D σ H => ∃ C, cls = .ref C ∧ d = none ∧ ok C ∧ ∃ B F0 M T env F, R (kw X) B F0 M T env σ H F ∧ ∃ A, Lk (kw X) B F0 M A D ∧ u e C A env) hs hf hN hi hln hc takes0
    (fun W pn xe tk _ => (hb pn xe).ex W tk) (fun e oe cls d pn hz hfl => ⟨fun pins s σ H D I ⟨C, e1, e2, hC, B, F0, M, T, env, F, R0, A, l, q⟩ => ?_⟩), fun B F0 M T env σ H F R0 A D l p => ?_⟩
  · subst e1 e2
    obtain ⟨t, g1, g2⟩ := (hu e oe C pn hz hfl hC).ex
    exact g1.run pins s σ H D I (g2 B F0 M T env σ H F R0 A D l q)
  · obtain ⟨il, p⟩ := p
    refine ⟨B, F0, M, T, env, F, R0, { nx := fun _ => False, rt := A.rt, rtE := A.rtE }, (fun C env' => ok C ∧ env'.length = env.length ∧ ∀ x, u x C { nx := fun _ => False, rt := A.rt, rtE := A.rtE } (env'.set i (.ln (exT x)))), ⟨fun _ _ _ _ _ _ z => z.elim, l.rt, fun _ _ _ _ _ _ z => z.elim, fun _ _ _ _ _ _ z => z.elim, fun _ _ _ _ _ _ _ _ z => z.elim, l.rtE⟩, fun T' C env' σ' H' F' R1 p1 => ?_, p⟩
    obtain ⟨hC, hlen, p1⟩ := p1
    refine ⟨true, hok C hC, fun _ a ha => ⟨C, rfl, rfl, hC, B, F0, M, T', _, F', R1.exc (by rw [hlen]; exact il), { nx := fun _ => False, rt := A.rt, rtE := A.rtE }, ?_, p1 a⟩, fun z => by cases z⟩
    exact ⟨fun _ _ _ _ _ _ z => z.elim, l.rt, fun _ _ _ _ _ _ z => z.elim, fun _ _ _ _ _ _ z => z.elim, fun _ _ _ _ _ _ _ _ z => z.elim, l.rtE⟩
end Ab
namespace Ab
open PySem PySem.Spec PyProof.Rows L2
theorem off_in {H : Hp} {A : List Addr} {x : Addr} {o : HO} (e : offL H A x = some o) : H x = some o ∧ x ∉ A := by
  unfold offL at e
  by_cases z : x ∈ A
  · rw [if_pos z] at e; cases e
  · rw [if_neg z] at e; exact ⟨e, z⟩
theorem off_no {H : Hp} {A : List Addr} {x : Addr} (e : offL H A x = none) : H x = none ∨ x ∈ A := by
  unfold offL at e
  by_cases z : x ∈ A
  · exact .inr z
  · rw [if_neg z] at e; exact .inl e
theorem r_startM {K : KW} {T : Tws K} {H F1 : Hp} {N : List Str} {φ : LnT} {v0 : V} {vs' : List V} {as us : AE} (b : Bs T H F1) (hat : φ.at_ K H F1 v0) (hA : ∀ x ∈ φ.A, (∃ o, H x = some o) ∧ F1 x = none ∧ ¬ T x) (pr : Paired (Arg K T F1) vs' as) (hus : us = List.replicate (N.length - (as.length + 1)) Sl.un) :
    R K (offL H φ.A) F1 T T (.ln φ :: as ++ us) (L2.start N (v0 :: vs')) H F1 := by
  have hvl : vs'.length = as.length := pairedLen pr
  have boff : ∀ x o, offL H φ.A x = some o → H x = some o ∧ x ∉ φ.A := fun x o e => by
    unfold offL at e
    by_cases z : x ∈ φ.A
    · rw [if_pos z] at e; cases e
    · rw [if_neg z] at e; exact ⟨e, z⟩
  have nof : ∀ x, offL H φ.A x = none → H x = none ∨ x ∈ φ.A := fun x e => by
    unfold offL at e
    by_cases z : x ∈ φ.A
    · exact .inr z
    · rw [if_neg z] at e; exact .inl e
  have at_ : ∀ {i : Nat} {s : Sl}, (.ln φ :: as ++ us)[i]? = some s → s ≠ .un → (i = 0 ∧ s = .ln φ) ∨ ∃ j, i = j + 1 ∧ as[j]? = some s := fun {i s} e n => by
    by_cases hi : i < (Sl.ln φ :: as).length
    · rw [List.getElem?_append_left hi] at e
      cases i with
      | zero => exact .inl ⟨rfl, (Option.some.inj e).symm⟩
      | succ j => exact .inr ⟨j, rfl, by simpa using e⟩
    · rw [List.getElem?_append_right (by omega), hus, List.getElem?_replicate] at e
      split at e
      · exact absurd (Option.some.inj e).symm n
      · cases e
  have arg : ∀ {j : Nat} {s : Sl}, as[j]? = some s → ∃ v, (L2.start N (v0 :: vs'))[j + 1]? = some (some v) ∧ Arg K T F1 v s := fun {j s} e => by
    obtain ⟨v, hv, ha⟩ := paired_get pr e
    exact ⟨v, start_get (i := j + 1) (by simpa using hv), ha⟩
  refine ⟨⟨b.sub, Sub.refl _, fun _ _ h => .inl h, fun a o h _ => (boff a o h).1, fun a t => ⟨(b.tw a t).1, (b.tw a t).2, .inl t⟩, fun _ h => ⟨h, KdLe.refl _⟩⟩, ?_, fun i d e => ?_, fun i ds e => ?_, fun i kk e => ?_, fun i ns e => ?_, fun i j ds es a h1 _ _ _ => ?_, fun i ψ e => ?_⟩
  · rw [List.length_append, start_len, hus, List.length_replicate, List.length_cons, List.length_cons, hvl]
  · rcases at_ e (by intro z; cases z) with ⟨_, z⟩ | ⟨j, rfl, e2⟩
    · cases z
    · obtain ⟨v, hv, ha⟩ := arg e2
      cases ha with
      | va h => exact ⟨v, hv, h⟩
  · rcases at_ e (by intro z; cases z) with ⟨_, z⟩ | ⟨j, rfl, e2⟩
    · cases z
    · obtain ⟨v, hv, ha⟩ := arg e2
      cases ha
  · rcases at_ e (by intro z; cases z) with ⟨_, z⟩ | ⟨j, rfl, e2⟩
    · cases z
    · obtain ⟨v, hv, ha⟩ := arg e2
      cases ha with
      | ty h e => exact ⟨_, h, e, hv⟩
  · rcases at_ e (by intro z; cases z) with ⟨_, z⟩ | ⟨j, rfl, e2⟩
    · cases z
    · obtain ⟨v, hv, ha⟩ := arg e2
      cases ha with
      | sc h => exact ⟨_, hv, h⟩
  · rcases at_ h1 (by intro z; cases z) with ⟨_, z⟩ | ⟨j, rfl, e2⟩
    · cases z
    · obtain ⟨v, hv, ha⟩ := arg e2
      cases ha
  · rcases at_ e (by intro z; cases z) with ⟨rfl, z⟩ | ⟨j, rfl, e2⟩
    · cases z
      refine ⟨⟨v0, start_get (i := 0) rfl, hat⟩, fun x hx => ?_⟩
      obtain ⟨k1, k2, k3⟩ := hA x hx
      refine ⟨k1, k2, fun _ => by unfold offL; rw [if_pos hx], k3, fun j g e => ?_⟩
      rcases at_ e (by intro z; cases z) with ⟨_, z⟩ | ⟨j, rfl, e2⟩
      · cases z
      · obtain ⟨v, hv, ha⟩ := arg e2
        cases ha
    · obtain ⟨v, hv, ha⟩ := arg e2
      obtain ⟨a0, a1⟩ := ha.lnAt
      exact ⟨⟨v, hv, a1 _⟩, fun x hx => absurd hx (by rw [a0]; simp)⟩
abbrev WtMX := AE → (DD → LnT → Prop) → (Addr → Prop) → Prop
def spMutX (K : KW) (n : Nat) (W : WtMX) : Sp := fun vs H Q E => ∃ (F : Hp) (T : Tws K) (φ : LnT) (v : V) (vs' : List V) (as : AE) (P : DD → LnT → Prop) (PE : Addr → Prop), vs = v :: vs' ∧ Bs T H F ∧ φ.own = true ∧ LnTo φ φ ∧ φ.at_ K H F v ∧ (∀ x ∈ φ.A, (∃ o, H x = some o) ∧ F x = none ∧ ¬ T x) ∧ Paired (Arg K T F) vs' as ∧ as.length + 1 = n ∧ W (.ln φ :: as) P PE ∧
  (∀ w d φ' H' F', LnTo φ φ' → StpA T φ.A H F H' F' → φ'.at_ K H' F' v → (∀ x ∈ φ'.A, (∃ o, H' x = some o) ∧ F' x = none ∧ (x ∈ φ.A ∨ H x = none)) → Rp K F' w d → P d φ' → Q w H') ∧
  ∀ C H' F', StpA T φ.A H F H' F' → φ.at_ K H' F' v → (∀ x ∈ φ.A, (∃ o, H' x = some o) ∧ F' x = none) → PE C → E (.ref C) none H'
theorem spMutX_len {K : KW} {n : Nat} {W : WtMX} : ∀ vs H Q E, spMutX K n W vs H Q E → vs.length = n := fun vs H Q E h => by
  obtain ⟨F, T, φ, v, vs', as, P, PE, rfl, _, _, _, _, _, h2, h3, _⟩ := h
  rw [← h3, List.length_cons, pairedLen h2]
theorem def_fnMX {P : Program} {w : World} {K : PySem.W.Frag} {mg : Str → Option Value} {base : Heap} {k : Nat} {x qual : Str} {st : Stmt} {f : Addr} {fd : FuncData} {N ps : List Str} {W : WtMX} (us : AE) (F : Fun K x qual st f fd) (S : FnScope N ps (defScope st))
    (hbody : ∃ a : ASxx, (∀ (cdv : Value) (A : Around) (outer : List Env) (s : Shared) (H : Hp) (E : XK), Room k (A.deeper (envOfC qual (defScope st) s.heap.objs.size f cdv)) → JSXs (cxOf (L2.CX P w) P w K mg base N qual (defScope st) f cdv A outer s H E) (defBody st) a) ∧
      ∀ φ as Q PE, as.length + 1 = ps.length → W (.ln φ :: as) Q PE → φ.own = true → a { nx := fun _ => False, rt := fun _ => False, rtE := fun d env => ∃ φ', env[0]? = some (.ln φ') ∧ LnTo φ φ' ∧ Q d φ' } (fun C env => env[0]? = some (.ln φ) ∧ PE C) (.ln φ :: as ++ us))
    (hus : us = List.replicate (N.length - ps.length) Sl.un := by rfl) : FnOk P w K mg base (L2.CX P w) (k + 1) f fd ps (spMutX ⟨K, P, w⟩ ps.length W) := by
  refine F.okX S (fun vs H Q E h => spMutX_len vs H Q E h) (fun cdv A outer s H vs Q E hr h => ?_)
  obtain ⟨a, hb1, hb2⟩ := hbody
  obtain ⟨F1, T, φ, v0, vs', as, Pd, PE, rfl, b, hown, sm, hat, hA, pr, hl, hw, q, r0⟩ := h
  have st : ∀ {T' : Tws ⟨K, P, w⟩} {env : AE} {σ : L2.St} {H' F' : Hp} {φ' : LnT} {v : V}, R ⟨K, P, w⟩ (offL H φ.A) F1 T T' env σ H' F' → env[0]? = some (.ln φ') → φ'.own = true → (∀ x ∈ φ.A, x ∈ φ'.A) → StpA T φ.A H F1 H' F' ∧ ∀ x ∈ φ'.A, (∃ o, H' x = some o) ∧ F' x = none ∧ (x ∈ φ.A ∨ H x = none) := fun {T' env σ H' F' φ' v} r e ow sub => by
    obtain ⟨_, z3⟩ := r.ln 0 φ' e
    refine ⟨⟨r.sub, r.f0, fun a o e => ?_, fun a o e nt na => r.keep a o (by unfold offL; rw [if_neg na]; exact e) nt, fun a t => Tws.le_ok (r.tw a (r.mt a t).1).2.1 (r.mt a t).2⟩, fun x hx => ?_⟩
    · rcases r.new a o e with z | z
      · exact .inl z
      · rcases off_no z with y | y
        · exact .inr y
        · rw [(z3 a (sub a y)).2.1] at e; cases e
    · obtain ⟨y1, y2, y3, _⟩ := z3 x hx
      exact ⟨y1, y2, (off_no (y3 ow)).symm⟩
  refine ⟨_, (hb1 cdv A outer s H E hr).ex _ (takes_of rfl rfl rfl rfl), offL H φ.A, F1, T, T, .ln φ :: as ++ us, F1, r_startM b hat hA pr (by rw [hus, hl]), _, _, ?_, ?_, hb2 φ as Pd PE hl hw hown⟩
  · refine ⟨fun _ _ _ _ _ _ z => z.elim, fun _ _ _ _ _ _ _ z => z.elim, fun _ _ _ _ _ _ z => z.elim, fun _ _ _ _ _ _ z => z.elim, fun _ _ _ _ _ _ _ _ z => z.elim, fun T' w' d env σ H' F' r rd p => ?_⟩
    obtain ⟨φ', p1, p2, p3⟩ := p
    obtain ⟨⟨v, z1, z2⟩, _⟩ := r.ln 0 φ' p1
    have ev := p2.same hat z2
    subst ev
    obtain ⟨g1, g2⟩ := st (v := v) r p1 p2.own.2 p2.sub
    exact q w' d φ' H' F' p2 g1 z2 g2 rd p3
  · intro T' C env σ H' F' r p
    obtain ⟨p1, p2⟩ := p
    obtain ⟨⟨v, z1, z2⟩, _⟩ := r.ln 0 φ p1
    obtain ⟨g1, g2⟩ := st (v := v) r p1 hown fun _ h => h
    have ev := sm.same hat z2
    subst ev
    exact r0 C H' F' g1 z2 (fun x hx => ⟨(g2 x hx).1, (g2 x hx).2.1⟩) p2
end Ab
namespace Ab
open PySem PySem.Spec PyProof.Rows L2
theorem R.frzX {K : KW} {B F0 : Hp} {M T : Tws K} {env : AE} {σ : L2.St} {H F : Hp} {i : Nat} {ds : Og} (R0 : R K B F0 M T env σ H F) (h : env[i]? = some (.og ds)) (ok : ds.ok) : ∃ a u, σ[i]? = some (some (.ref a)) ∧ H a = some u ∧ F a = none ∧ B a = none ∧ OgRp K F a u ds ∧ R K B F0 M T (env.set i (.va ds.d)) σ H (upd F a u) := by
  obtain ⟨a, vs, e1, e2, e3, e4, e5, e6⟩ := R0.og i ds h
  have sb : Sub F (upd F a vs) := sub_upd e3
  have il : i < env.length := (List.getElem?_eq_some_iff.mp h).1
  have at_ : ∀ {j : Nat} {s : Sl}, (env.set i (.va ds.d))[j]? = some s → (i = j ∧ s = .va ds.d) ∨ (i ≠ j ∧ env[j]? = some s) := fun {j s} he => by
    by_cases q : i = j
    · subst q
      rw [List.getElem?_set_self il] at he
      cases he
      exact .inl ⟨rfl, rfl⟩
    · rw [List.getElem?_set_ne q] at he
      exact .inr ⟨q, he⟩
  refine ⟨a, vs, e1, e2, e3, e4, e6, ⟨fun b u e => ?_, R0.f0.trans sb, fun b u e => ?_, R0.keep, fun b t => ?_, R0.mt⟩, by rw [List.length_set]; exact R0.len, fun j d he => ?_, fun j es he => ?_, fun j kk he => ?_, fun j ns he => ?_, fun j k es fs b g1 g2 g3 g4 => ?_, fun j φ he => ?_⟩
  case refine_9 =>
    obtain ⟨⟨v, h1, h2⟩, h3, hj⟩ := R0.lnE (s' := .va ds.d) (fun φ z => by cases z) (.inl fun g z => by cases z) j φ he
    refine ⟨⟨v, h1, φ.mono h2 (fun _ _ => rfl) sb⟩, fun x hx => ?_⟩
    obtain ⟨k1, k2, k3, k4, k5⟩ := h3 x hx
    have ne : x ≠ a := fun z => R0.lno h e1 j φ hj (by rw [← z]; exact hx)
    exact ⟨k1, by rw [upd_ne ne]; exact k2, k3, k4, k5⟩
  · by_cases q : b = a
    · subst q; rw [upd_same] at e; cases e; exact e2
    · rw [upd_ne q] at e; exact R0.sub b u e
  · by_cases q : b = a
    · subst q; exact .inr e4
    · rw [upd_ne q] at e; exact R0.new b u e
  · have hb : b ≠ a := fun q => e5 (q ▸ t)
    rw [upd_ne hb]; exact R0.tw b t
  · rcases at_ he with ⟨q, q2⟩ | ⟨q, he⟩
    · subst q; cases q2
      exact ⟨_, e1, e6.rp sb upd_same ok⟩
    · obtain ⟨v, h1, h2⟩ := R0.va j d he
      exact ⟨v, h1, Rp.sub sb _ h2⟩
  · rcases at_ he with ⟨_, q2⟩ | ⟨q, he⟩
    · cases q2
    · obtain ⟨c, ws, f1, f2, f3, f4, f5, f6⟩ := R0.og j es he
      have ne : c ≠ a := fun z => by
        subst z
        exact q (R0.di i j ds es c h he e1 f1)
      exact ⟨c, ws, f1, f2, by rw [upd_ne ne]; exact f3, f4, f5, f6.sub sb⟩
  · rcases at_ he with ⟨_, q2⟩ | ⟨q, he⟩
    · cases q2
    · exact R0.ti j kk he
  · rcases at_ he with ⟨_, q2⟩ | ⟨q, he⟩
    · cases q2
    · obtain ⟨c, f1, f2⟩ := R0.sc j ns he
      exact ⟨c, f1, sb.seqL f2⟩
  · rcases at_ g1 with ⟨_, q2⟩ | ⟨q, g1⟩
    · cases q2
    · rcases at_ g2 with ⟨_, q2⟩ | ⟨q', g2⟩
      · cases q2
      · exact R0.di j k es fs b g1 g2 g3 g4
/-- a slot as it is handed on -/
inductive KpS : Bool → Sl → Sl → Prop
  | un {b s} : KpS b s .un
  | va {b d} : keyD d = true → KpS b (.va d) (.va d)
  | ls {ds} : keyDs ds = true → KpS true (.va (.list ds)) (.va (.list ds))
inductive Kp : List Bool → AE → AE → Prop
  | nil : Kp [] [] []
  | cons {b bs s s' env env'} : KpS b s s' → Kp bs env env' → Kp (b :: bs) (s :: env) (s' :: env')
theorem Kp.len {bs : List Bool} {env env' : AE} (h : Kp bs env env') : env'.length = env.length := by
  induction h with
  | nil => rfl
  | cons _ _ ih => rw [List.length_cons, List.length_cons, ih]
theorem Kp.get {bs : List Bool} {env env' : AE} (h : Kp bs env env') : ∀ {i : Nat} {s' : Sl}, env'[i]? = some s' → ∃ b s, bs[i]? = some b ∧ env[i]? = some s ∧ KpS b s s' := by
  induction h with
  | nil => intro i s' e; simp at e
  | cons a _ ih =>
    intro i s' e
    cases i with
    | zero => cases Option.some.inj e; exact ⟨_, _, rfl, rfl, a⟩
    | succ i => exact ih e
section
variable {X : Cx} {e c e1 e2 : Expr} {pos p : Pos} {α : AEx} {a b : ASx} {τ : ATx}
/-- a list of one's own lent to an expression that makes a new list -/
def aBorO (j : Nat) (α : AOx) : AOx := fun env P => ∃ xs, env[j]? = some (.ow xs) ∧ α (env.set j (.va (.list xs))) fun ds => keyDs ds = true ∧ P ds
theorem jo_borO (j : Nat) {α : AOx} (h : JO X e α) : JO X e (aBorO j α) := by
  obtain ⟨t, h1, h2⟩ := h.ex
  refine ⟨_, h1, fun B F0 M T env σ H F R0 P p Q q => ?_⟩
  obtain ⟨xs, ej, p⟩ := p
  have R0' : R (kw X) B F M T env σ H F := { R0 with f0 := Sub.refl F, new := fun _ _ h => .inl h }
  obtain ⟨b, u, e1, e2, e3, e4, e5, R1⟩ := R0'.frzX ej True.intro
  refine h2 B F M T _ σ H _ R1 _ p _ fun a vs ds H' F' s g1 g2 g3 rd pd => ?_
  obtain ⟨ws, rfl, _⟩ := e5.lstOf
  have sF : Sub F F' := fun x o e => s.ext x o (R1.f0 x o e)
  have fb : F' b = some (.lst ws) := s.ext b _ upd_same
  have nb : a ≠ b := fun z => by subst z; rw [fb] at g2; cases g2
  have hl : ∀ x ∈ [b], ∃ xs, F' x = some (.lst xs) := fun x hx => by rw [List.mem_singleton.mp hx]; exact ⟨_, fb⟩
  refine q a vs ds H' (offL F' [b]) ⟨fun x o e => ?_, fun x o e => ?_, fun x o e => ?_, s.keep, s.tc⟩ g1 ?_ g3 (RpAll.off hl ds pd.1 rd) pd.2
  · unfold offL at e
    split at e
    · cases e
    · exact s.sub x o e
  · unfold offL
    have : x ∉ [b] := fun z => by rw [List.mem_singleton.mp z, e3] at e; cases e
    rw [if_neg this]
    exact sF x o e
  · unfold offL at e
    split at e
    · cases e
    · rename_i n
      rcases s.new x o e with z | z
      · rw [upd_ne fun y => n (List.mem_singleton.mpr y)] at z
        exact .inl z
      · exact .inr z
  · unfold offL
    rw [if_neg fun z => nb (List.mem_singleton.mp z)]
    exact g2
end
end Ab
namespace Ab
open PySem PySem.Spec PyProof.Rows L2
def spP (K : KW) (n : Nat) (W : WtL) : Sp := fun vs H Q _ => ∃ (F : Hp) (T : Tws K) (as : AE) (P : DD → Prop) (PO : List DD → Prop), Bs T H F ∧ Paired (Arg K T F) vs as ∧ as.length = n ∧ W as P PO ∧
  (∀ v d H' F', Stp T H F H' F' → Rp K F' v d → P d → Q v H') ∧ ∀ a ds H' F', Stp T H F H' F' → Rp K F' (.ref a) (.list ds) → H a = none → PO ds → Q (.ref a) H'
structure ClP (P : Program) (w : World) (K : PySem.W.Frag) (mg : Str → Option Value) (base : Heap) (k : Nat) (x : Str) (n : Nat) (W : WtL) : Prop where
  ex : ∃ (f : Addr) (fd : FuncData) (ps : List Str), FnOk P w K mg base CX0 k f fd ps (spP ⟨K, P, w⟩ n W) ∧ mg x = some (.ref f) ∧ PySem.W.keepIn K (.ref f) = true ∧ Binds K fd ps []
theorem ClP.mono {P : Program} {w : World} {K : PySem.W.Frag} {mg : Str → Option Value} {base : Heap} {k j : Nat} {x : Str} {n : Nat} {W : WtL} (h : ClP P w K mg base k x n W) (l : k ≤ j) : ClP P w K mg base j x n W := by
  obtain ⟨f, fd, ps, h1, h2⟩ := h.ex
  exact ⟨f, fd, ps, h1.mono l, h2⟩
end Ab
namespace Ab
open PySem PySem.Spec PyProof.Rows L2
structure ClMX (P : Program) (w : World) (K : PySem.W.Frag) (mg : Str → Option Value) (base : Heap) (k : Nat) (C : Addr) (m : Str) (n : Nat) (W : WtMX) : Prop where
  ex : ∃ (f : Addr) (fd : FuncData) (ps : List Str), FnOk P w K mg base (L2.CX P w) k f fd ps (spMutX ⟨K, P, w⟩ n W) ∧ Meth K C m f ∧ Binds K fd ps []
structure ClMd (P : Program) (w : World) (K : PySem.W.Frag) (mg : Str → Option Value) (base : Heap) (k : Nat) (x : Str) (n : Nat) (W : WtM) : Prop where
  ex : ∃ (f : Addr) (fd : FuncData) (ps : List Str), FnOk P w K mg base CX0 k f fd ps (spMut ⟨K, P, w⟩ n W) ∧ mg x = some (.ref f) ∧ PySem.W.keepIn K (.ref f) = true ∧ Binds K fd ps []
abbrev WtN := AE → (LnT → Prop) → Prop
/-- told by a thing that is only read -/
def spSelfN (K : KW) (n : Nat) (W : WtN) : Sp := fun vs H Q _ => ∃ (F : Hp) (T : Tws K) (φ : LnT) (v : V) (vs' : List V) (as : AE) (P : LnT → Prop), vs = v :: vs' ∧ Bs T H F ∧ φ.own = false ∧ φ.at_ K H F v ∧ (∀ x ∈ φ.A, (∃ o, H x = some o) ∧ F x = none ∧ ¬ T x) ∧ Paired (Arg K T F) vs' as ∧ as.length + 1 = n ∧ W (.ln φ :: as) P ∧
  ∀ w ψ H' F', Stp T H F H' F' → ψ.at_ K H' F' w → ψ.own = true → (∀ x ∈ ψ.A, (∃ o, H' x = some o) ∧ F' x = none ∧ H x = none) → P ψ → Q w H'
/-- told by a thing that is changed and not needed any more -/
def spMutN (K : KW) (n : Nat) (W : WtN) : Sp := fun vs H Q _ => ∃ (F : Hp) (T : Tws K) (φ : LnT) (v : V) (vs' : List V) (as : AE) (P : LnT → Prop), vs = v :: vs' ∧ Bs T H F ∧ φ.own = true ∧ φ.at_ K H F v ∧ (∀ x ∈ φ.A, (∃ o, H x = some o) ∧ F x = none ∧ ¬ T x) ∧ Paired (Arg K T F) vs' as ∧ as.length + 1 = n ∧ W (.ln φ :: as) P ∧
  ∀ w ψ φ' H' F', LnTo φ φ' → StpA T φ.A H F H' F' → φ'.at_ K H' F' v → (∀ x ∈ φ'.A, (∃ o, H' x = some o) ∧ F' x = none ∧ (x ∈ φ.A ∨ H x = none)) → ψ.at_ K H' F' w → ψ.own = true → (∀ x ∈ ψ.A, (∃ o, H' x = some o) ∧ F' x = none ∧ (H x = none ∨ x ∈ φ.A)) → P ψ → Q w H'
structure ClSN (P : Program) (w : World) (K : PySem.W.Frag) (mg : Str → Option Value) (base : Heap) (k : Nat) (C : Addr) (m : Str) (W : WtN) : Prop where
  ex : ∃ (f : Addr) (fd : FuncData) (ps : List Str), FnOk P w K mg base CX0 k f fd ps (spSelfN ⟨K, P, w⟩ 1 W) ∧ Meth K C m f ∧ Binds K fd ps []
structure ClDN (P : Program) (w : World) (K : PySem.W.Frag) (mg : Str → Option Value) (base : Heap) (k : Nat) (x : Str) (n : Nat) (W : WtN) : Prop where
  ex : ∃ (f : Addr) (fd : FuncData) (ps : List Str), FnOk P w K mg base CX0 k f fd ps (spMutN ⟨K, P, w⟩ n W) ∧ mg x = some (.ref f) ∧ PySem.W.keepIn K (.ref f) = true ∧ Binds K fd ps []
section
variable {P : Program} {w : World} {K : PySem.W.Frag} {mg : Str → Option Value} {base : Heap} {j k : Nat} {C : Addr} {m x : Str} {n : Nat}
theorem ClMX.mono {W : WtMX} (h : ClMX P w K mg base j C m n W) (l : j ≤ k) : ClMX P w K mg base k C m n W := by
  obtain ⟨f, fd, ps, h1, h2⟩ := h.ex
  exact ⟨f, fd, ps, h1.mono l, h2⟩
theorem ClMd.mono {W : WtM} (h : ClMd P w K mg base j x n W) (l : j ≤ k) : ClMd P w K mg base k x n W := by
  obtain ⟨f, fd, ps, h1, h2⟩ := h.ex
  exact ⟨f, fd, ps, h1.mono l, h2⟩
theorem ClSN.mono {W : WtN} (h : ClSN P w K mg base j C m W) (l : j ≤ k) : ClSN P w K mg base k C m W := by
  obtain ⟨f, fd, ps, h1, h2⟩ := h.ex
  exact ⟨f, fd, ps, h1.mono l, h2⟩
theorem ClDN.mono {W : WtN} (h : ClDN P w K mg base j x n W) (l : j ≤ k) : ClDN P w K mg base k x n W := by
  obtain ⟨f, fd, ps, h1, h2⟩ := h.ex
  exact ⟨f, fd, ps, h1.mono l, h2⟩
end
/-- the body of a def that hands a thing back -/
structure JLs (X : Cx) (sts : List Stmt) (a : (LnT → AE → Prop) → AE → Prop) : Prop where
  ex : ∃ t, PSs X sts t ∧ ∀ B F0 M T env σ H F, R (kw X) B F0 M T env σ H F → ∀ P D, (∀ T v φ env σ H F (i : Nat), R (kw X) B F0 M T env σ H F → env[i]? = some (.ln φ) → σ[i]? = some (some v) → P φ env → D.rt v H) → a P env → t D σ H
section
variable {X : Cx} {e : Expr} {s : Stmt} {ss : List Stmt} {pos p : Pos} {x : Str} {u : ASx} {a : (LnT → AE → Prop) → AE → Prop}
def aRetL (i : Nat) : (LnT → AE → Prop) → AE → Prop := fun P env => ∃ φ, env[i]? = some (.ln φ) ∧ P φ env
theorem jls_ret (i : Nat) (hN : X.N[i]? = some x := by rfl) (hv : Vis X.env.scope x := by first | exact Or.inl rfl | exact Or.inr (Or.inl rfl) | exact Or.inr (Or.inr rfl)) (hd : (x == ("__debug__" : Str)) = false := by decide)
    (hcd : (x == ("__classdict__" : Str)) = false := by decide) : JLs X [.Return (some (.Name x p)) pos] (aRetL i) := by
  refine ⟨_, pss_one (ps_ret (pe_var hN hv hd hcd)), fun B F0 M T env σ H F R0 P D l q => ?_⟩
  obtain ⟨φ, p1, p2⟩ := q
  obtain ⟨⟨v, e1, e2⟩, _⟩ := R0.ln i φ p1
  exact ⟨_, e1, l T v φ env σ H F i R0 p1 e1 p2⟩
def aSeqL (u : ASx) (a : (LnT → AE → Prop) → AE → Prop) : (LnT → AE → Prop) → AE → Prop := fun P env => u { nx := a P, rt := fun _ => False } env
theorem jls_cons (h : JS X s u) (g : JLs X ss a) : JLs X (s :: ss) (aSeqL u a) := by
  obtain ⟨t, h1, h2⟩ := h.ex
  obtain ⟨t', g1, g2⟩ := g.ex
  refine ⟨_, pss_cons h1 g1, fun B F0 M T env σ H F R0 P D l q => ?_⟩
  exact h2 B F0 M T env σ H F R0 { nx := a P, rt := fun _ => False } _ ⟨fun T env σ H F r q => g2 B F0 M T env σ H F r P D l q, fun _ _ _ _ _ _ _ z => z.elim, fun _ _ _ _ _ _ z => z.elim, fun _ _ _ _ _ _ z => z.elim, fun _ _ _ _ _ _ _ _ z => z.elim, fun _ _ _ _ _ _ _ _ _ z => z.elim⟩ q
end
/-- new things -/
def SimN (K : KW) (t : TE) (ν : AE → (LnT → Prop) → Prop) : Prop := ∀ B F0 M T env σ H F, R K B F0 M T env σ H F → ∀ P, ν env P → ∀ Q : VK, (∀ v φ H' F', Stp T H F H' F' → φ.at_ K H' F' v → φ.own = true → (∀ x ∈ φ.A, (∃ o, H' x = some o) ∧ F' x = none ∧ H x = none) → P φ → Q v H') → t σ H Q
structure JN (X : Cx) (e : Expr) (ν : AE → (LnT → Prop) → Prop) : Prop where ex : ∃ t, PE X e t ∧ SimN (kw X) t ν
theorem R.putN {K : KW} {B F0 : Hp} {M T : Tws K} {env : AE} {σ : L2.St} {H F H' F' : Hp} {i : Nat} {φ : LnT} {v : V} (r : R K B F0 M T env σ H F) (s : Stp T H F H' F') (il : i < env.length) (hv : φ.at_ K H' F' v) (hA : ∀ x ∈ φ.A, (∃ o, H' x = some o) ∧ F' x = none ∧ H x = none) : R K B F0 M T (env.set i (.ln φ)) (σ.set i (some v)) H' F' :=
  (r.step s).putL il hv fun x hx => by
    obtain ⟨a1, a2, a3⟩ := hA x hx
    refine ⟨a1, a2, r.toGd.dom a3, fun t => ?_, fun j g hj hσ => ?_⟩
    · obtain ⟨o, y⟩ := Tws.has (r.tw x t).2.1
      rw [a3] at y; cases y
    · obtain ⟨b, u, h1, h2, _⟩ := r.og j g hj
      rw [hσ] at h1
      cases h1
      rw [a3] at h2; cases h2
theorem fresh_apart {K : KW} {B F0 : Hp} {M T : Tws K} {env : AE} {σ : L2.St} {H F : Hp} {A : List Addr} (r : R K B F0 M T env σ H F) (hA : ∀ x ∈ A, H x = none) : ∀ (j : Nat) ψ, env[j]? = some (.ln ψ) → ∀ x ∈ ψ.A, x ∉ A := fun j ψ e x hx hz => by
  obtain ⟨⟨o, ho⟩, _⟩ := (r.ln j ψ e).2 x hx
  rw [hA x hz] at ho; cases ho
def aSetN (i : Nat) (ν : AE → (LnT → Prop) → Prop) : ASx := fun A env => i < env.length ∧ ν env fun φ => (∀ (j : Nat) ψ, env[j]? = some (.ln ψ) → ∀ x ∈ ψ.A, x ∉ φ.A) → A.nx (env.set i (.ln φ))
section
variable {X : Cx} {e a b c : Expr} {es fs : List Expr} {pos p p2 px apos : Pos} {x y z f m : Str} {k n : Nat} {ν : AE → (LnT → Prop) → Prop}
theorem js_setN (i : Nat) (nd : X.N.Nodup) (he : JN X e ν) (hi : X.N[i]? = some x := by rfl) (hx : Loc X.env.scope x := by first | exact Or.inl rfl | exact Or.inr rfl) (hs : swapsWith e (some (.Name x p)) pos.line X.env = pure false := by rfl)
    (hf : X.fn x = true ∨ X.env.scope.names.lookup x = some .local := by first | exact .inl rfl | exact .inr rfl | assumption) : JS X (.Assign [.Name x p] e pos) (aSetN i ν) := by
  obtain ⟨t, h1, h2⟩ := he.ex
  refine ⟨_, ps_set nd hi hx h1 hs hf, fun B F0 M T env σ H F R0 A D l q => ?_⟩
  obtain ⟨il, q⟩ := q
  exact h2 B F0 M T env σ H F R0 _ q _ fun v φ H' F' s at_ ow hA p => l.nx T _ _ H' F' (R0.putN s il at_ hA) (p (fresh_apart R0 fun x hx => (hA x hx).2.2))
/-- y = f(x, ..), where f changes x -/
def aCallMd (i n : Nat) (W : WtM) (δ : AE → (AE → Prop) → Prop) : AXm := fun env P => ∃ φ, env[i]? = some (.ln φ) ∧ Apart env i φ.A ∧ φ.own = true ∧ δ env fun as => as.length + 1 = n ∧ W (.ln φ :: as) fun d φ' => P d (env.set i (.ln φ'))
theorem jm_call (i : Nat) {W : WtM} {δ : AE → (AE → Prop) → Prop} (C : ClMd X.prog X.w X.K X.mg X.base k f n W) (hr : Room k X.A) (ha : JA X es δ) (hN : X.N[i]? = some x := by rfl) (hv : Vis X.env.scope x := by first | exact Or.inl rfl | exact Or.inr (Or.inl rfl) | exact Or.inr (Or.inr rfl)) (hd : (x == ("__debug__" : Str)) = false := by decide)
    (hcd : (x == ("__classdict__" : Str)) = false := by decide) (hg : Gl X f := by rfl) (hdb : (f == ("__debug__" : Str)) = false := by decide)
    (he : starEach (.Name x px :: es) X.env = (false, eval (.Name x px) X.env) :: starEach es X.env := by rfl) (hpl : (backTo pos (starEach es X.env)).any (·.1) = false := by rfl) : JEm X (.Call (.Name f p) (.Name x px :: es) [] pos) (aCallMd i n W δ) := by
  obtain ⟨t, h1, h2⟩ := ha.ex
  obtain ⟨fa, fd, ps, g1, g2, g3, g4⟩ := C.ex
  refine ⟨_, pe_call g1 hr hg g2 g3 g4 .nil pass0 (pa_cons (pe_var hN hv hd hcd) h1 he) hdb he hpl, fun B F0 M T env σ H F R0 P q Q r => ?_⟩
  obtain ⟨φ, p1, one, ow, p2⟩ := q
  obtain ⟨⟨v, e1, e2⟩, _⟩ := R0.ln i φ p1
  refine ⟨_, e1, h2 B F0 M T env σ H F R0 _ p2 _ fun vs as H1 F1 s1 d1 p3 => ?_⟩
  have R1 := R0.step s1
  obtain ⟨⟨v', e1', e2'⟩, e3⟩ := R1.ln i φ p1
  rw [e1] at e1'
  cases Option.some.inj (Option.some.inj e1')
  refine ⟨F1, T, φ, v, vs, as, _, by rw [List.append_nil], R1.bs, ow, e2', fun y hy => ⟨(e3 y hy).1, (e3 y hy).2.1, (e3 y hy).2.2.2.1⟩, d1, p3.1, p3.2, fun w d φ' H2 F2 to s at2 A2 rd pd => ?_⟩
  exact r w d _ H2 F2 (R1.lnMutA p1 one s ow to.own.2 (fun u hu => by
    have := to.same hu at2
    rw [← this]; exact at2) A2) rd pd
def aSetM (j : Nat) (α : AXm) : ASx := fun A env => α env fun d env' => A.nx (env'.set j (.va d))
theorem js_setM (j : Nat) {α : AXm} (nd : X.N.Nodup) (he : JEm X e α) (hi : X.N[j]? = some x := by rfl) (hx : Loc X.env.scope x := by first | exact Or.inl rfl | exact Or.inr rfl) (hs : swapsWith e (some (.Name x p)) pos.line X.env = pure false := by rfl)
    (hf : X.fn x = true ∨ X.env.scope.names.lookup x = some .local := by first | exact .inl rfl | exact .inr rfl | assumption) : JS X (.Assign [.Name x p] e pos) (aSetM j α) := by
  obtain ⟨t, h1, h2⟩ := he.ex
  exact ⟨_, ps_set nd hi hx h1 hs hf, fun B F0 M T env σ H F R0 A D l q => h2 B F0 M T env σ H F R0 _ q _ fun v d env' H' F' R1 rd pd => l.nx T _ _ H' F' (R1.put rd _ rfl) pd⟩
/-- x.m(), m changes x or raises -/
theorem pe_meth0E {X : Cx} {CX : CXT} {k : Nat} {f C : Addr} {fd : FuncData} {ps : List Str} {sp : Sp} {EE : L2.St → XK} {m : Str} {pos apos : Pos} {o : Expr} {ta : TE} {pl : Sem Bool} (ho : PE X o ta) (c : Cls X.K C) (M : Meth X.K C m f) (F : FnOk X.prog X.w X.K X.mg X.base CX k f fd ps sp) (r0 : Room k X.A) (bn : Binds X.K fd ps []) (ps0 : ∀ σ, PassesAt CX X σ (EE σ))
    (h3 : eval (.Call (.Attribute o m apos) [] [] pos) X.env = (do let ov ← eval o X.env; standAt apos.atName; let (f, first) ← holding [ov] (getMethod ov m pl); callWith pos f first (backTo pos (starEach [] X.env)) (backToKw pos (keywordEach [] X.env))) := by rfl) :
    PE X (.Call (.Attribute o m apos) [] [] pos) (fun σ H Q => ta σ H fun z H1 => ∃ a dx fs, z = .ref a ∧ H1 a = some (.ins C dx fs) ∧ fs.lookup m = none ∧ sp [z] H1 Q (EE σ)) := ⟨fun pins s σ H Q I q0 => by
  refine PySem.W.methodCall_KW (pl := pl) (thn (ho.run pins s σ H _ I q0) fun u s1 w1 => ?_) h3
  obtain ⟨z, H1, I1, rz, a, dx, fs, ez, ea, lk, q1⟩ := w1
  cases ez
  cases rz
  refine getmeth_ok I1 ea c M lk (PySem.W.callWith_K0 (first := [.ref a]) I1.kIn M.kp ?_)
  exact run_fnS (us := [.ref a]) (vs := [.ref a]) F r0 bn (ps0 σ) I1 (.cons (show RelV (V.ref a) (Value.ref a) from rfl) .nil) q1⟩
def aMethMX (i : Nat) (C : Addr) (m : Str) (W : WtMX) : AXmx := fun env P PE => ∃ φ, env[i]? = some (.ln φ) ∧ Apart env i φ.A ∧ φ.own = true ∧ LnTo φ φ ∧ (∀ (K : KW) (H F : Hp) (v : V), φ.at_ K H F v → ∃ a dx fs, v = .ref a ∧ H a = some (.ins C dx fs) ∧ fs.lookup m = none) ∧
  W [.ln φ] (fun d φ' => P d (env.set i (.ln φ'))) fun C => PE C env
theorem jxm_meth0 (i : Nat) {C : Addr} {W : WtMX} {pl : Sem Bool} (hC : Cls X.K C) (c : ClMX X.prog X.w X.K X.mg X.base k C m 1 W) (hr : Room k X.A) (hN : X.N[i]? = some x := by rfl)
    (hv : Vis X.env.scope x := by first | exact Or.inl rfl | exact Or.inr (Or.inl rfl) | exact Or.inr (Or.inr rfl)) (hd : (x == ("__debug__" : Str)) = false := by decide) (hcd : (x == ("__classdict__" : Str)) = false := by decide)
    (h3 : eval (.Call (.Attribute (.Name x px) m apos) [] [] pos) X.env = (do let ov ← eval (.Name x px) X.env; standAt apos.atName; let (f, first) ← holding [ov] (getMethod ov m pl); callWith pos f first (backTo pos (starEach [] X.env)) (backToKw pos (keywordEach [] X.env))) := by rfl) :
    JEXm X (.Call (.Attribute (.Name x px) m apos) [] [] pos) (aMethMX i C m W) := ⟨fun V tk => by
  obtain ⟨f, fd, ps, hF, hM, hB⟩ := c.ex
  refine pe_imp (pe_meth0E (EE := WE V) (pe_var hN hv hd hcd) hC hM hF hr hB (fun σ => passAt tk σ) h3) fun σ H Q ⟨B, F0, M, T, env, F, R0, P, PE, p, q, r⟩ => ?_
  obtain ⟨φ, p1, one, ow, sm, ins, p2⟩ := p
  obtain ⟨⟨v, e1, e2⟩, e3⟩ := R0.ln i φ p1
  obtain ⟨a, dx, fs, rfl, ea, lk⟩ := ins _ H F v e2
  refine ⟨_, e1, a, dx, fs, rfl, ea, lk, ?_⟩
  refine ⟨F, T, φ, .ref a, [], [], _, _, rfl, R0.bs, ow, sm, e2, fun y hy => ⟨(e3 y hy).1, (e3 y hy).2.1, (e3 y hy).2.2.2.1⟩, .nil, rfl, p2, fun w d φ' H2 F2 to s at2 A2 rd pd => ?_, fun Cx H2 F2 s at2 A2 pc => ?_⟩
  · exact q w d _ H2 F2 (R0.lnMutA p1 one s ow to.own.2 (fun u hu => by
      have := to.same hu at2
      rw [← this]; exact at2) A2) rd pd
  · have R1 := R0.lnMutA (φ' := φ) p1 one s ow ow (fun u hu => by
      have := sm.same hu at2
      rw [← this]; exact at2) fun x hx => ⟨(A2 x hx).1, (A2 x hx).2, .inl hx⟩
    rw [set_same p1] at R1
    exact r Cx env H2 F2 R1 pc⟩
end
end Ab
namespace Ab
open PySem PySem.Spec PyProof.Rows L2
theorem r_startL {K : KW} {T : Tws K} {H F1 : Hp} {N : List Str} {φ : LnT} {v0 : V} {vs' : List V} {as us : AE} (b : Bs T H F1) (hown : φ.own = false) (hat : φ.at_ K H F1 v0) (hA : ∀ x ∈ φ.A, (∃ o, H x = some o) ∧ F1 x = none ∧ ¬ T x) (pr : Paired (Arg K T F1) vs' as) (hus : us = List.replicate (N.length - (as.length + 1)) Sl.un) :
    R K H F1 T T ((.ln φ :: as) ++ us) (L2.start N (v0 :: vs')) H F1 := by
  have hvl : vs'.length = as.length := pairedLen pr
  have at_ : ∀ {i : Nat} {s : Sl}, ((.ln φ :: as) ++ us)[i]? = some s → s ≠ .un → (i = 0 ∧ s = .ln φ) ∨ ∃ j, i = j + 1 ∧ as[j]? = some s := fun {i s} e n => by
    by_cases hi : i < (Sl.ln φ :: as).length
    · rw [List.getElem?_append_left hi] at e
      cases i with
      | zero => exact .inl ⟨rfl, (Option.some.inj e).symm⟩
      | succ j => exact .inr ⟨j, rfl, by simpa using e⟩
    · rw [List.getElem?_append_right (by omega), hus, List.getElem?_replicate] at e
      split at e
      · exact absurd (Option.some.inj e).symm n
      · cases e
  have arg : ∀ {j : Nat} {s : Sl}, as[j]? = some s → ∃ v, (L2.start N (v0 :: vs'))[j + 1]? = some (some v) ∧ Arg K T F1 v s := fun {j s} e => by
    obtain ⟨v, hv, ha⟩ := paired_get pr e
    exact ⟨v, start_get (i := j + 1) (by simpa using hv), ha⟩
  refine ⟨⟨b.sub, Sub.refl _, fun _ _ h => .inl h, fun _ _ h _ => h, fun a t => ⟨(b.tw a t).1, (b.tw a t).2, .inl t⟩, fun _ h => ⟨h, KdLe.refl _⟩⟩, ?_, fun i d e => ?_, fun i ds e => ?_, fun i kk e => ?_, fun i ns e => ?_, fun i j ds es a h1 _ _ _ => ?_, fun i ψ e => ?_⟩
  · rw [List.length_append, start_len, hus, List.length_replicate, List.length_cons, List.length_cons, hvl]
  · rcases at_ e (by intro z; cases z) with ⟨_, z⟩ | ⟨j, rfl, e2⟩
    · cases z
    · obtain ⟨v, hv, ha⟩ := arg e2
      cases ha with
      | va h => exact ⟨v, hv, h⟩
  · rcases at_ e (by intro z; cases z) with ⟨_, z⟩ | ⟨j, rfl, e2⟩
    · cases z
    · obtain ⟨v, hv, ha⟩ := arg e2
      cases ha
  · rcases at_ e (by intro z; cases z) with ⟨_, z⟩ | ⟨j, rfl, e2⟩
    · cases z
    · obtain ⟨v, hv, ha⟩ := arg e2
      cases ha with
      | ty h e => exact ⟨_, h, e, hv⟩
  · rcases at_ e (by intro z; cases z) with ⟨_, z⟩ | ⟨j, rfl, e2⟩
    · cases z
    · obtain ⟨v, hv, ha⟩ := arg e2
      cases ha with
      | sc h => exact ⟨_, hv, h⟩
  · rcases at_ h1 (by intro z; cases z) with ⟨_, z⟩ | ⟨j, rfl, e2⟩
    · cases z
    · obtain ⟨v, hv, ha⟩ := arg e2
      cases ha
  · rcases at_ e (by intro z; cases z) with ⟨rfl, z⟩ | ⟨j, rfl, e2⟩
    · cases z
      refine ⟨⟨v0, start_get (i := 0) rfl, hat⟩, fun x hx => ?_⟩
      obtain ⟨k1, k2, k3⟩ := hA x hx
      refine ⟨k1, k2, fun z => (by rw [hown] at z; cases z), k3, fun j g e => ?_⟩
      rcases at_ e (by intro z; cases z) with ⟨_, z⟩ | ⟨j, rfl, e2⟩
      · cases z
      · obtain ⟨v, hv, ha⟩ := arg e2
        cases ha
    · obtain ⟨v, hv, ha⟩ := arg e2
      obtain ⟨a0, a1⟩ := ha.lnAt
      exact ⟨⟨v, hv, a1 _⟩, fun x hx => absurd hx (by rw [a0]; simp)⟩
theorem def_fnSN {P : Program} {w : World} {K : PySem.W.Frag} {mg : Str → Option Value} {base : Heap} {k : Nat} {x qual : Str} {st : Stmt} {f : Addr} {fd : FuncData} {N ps : List Str} {W : WtN} (us : AE) (F : Fun K x qual st f fd) (S : FnScope N ps (defScope st))
    (hbody : ∃ a, (∀ (cdv : Value) (A : Around) (outer : List Env) (s : Shared) (H : Hp) (E : XK), Room k (A.deeper (envOfC qual (defScope st) s.heap.objs.size f cdv)) → JLs (cxOf CX0 P w K mg base N qual (defScope st) f cdv A outer s H E).nox (defBody st) a) ∧
      ∀ φ as Q, as.length + 1 = ps.length → W (.ln φ :: as) Q → a (fun ψ _ => ψ.own = true ∧ Q ψ) (.ln φ :: as ++ us))
    (hus : us = List.replicate (N.length - ps.length) Sl.un := by rfl) : FnOk P w K mg base CX0 (k + 1) f fd ps (spSelfN ⟨K, P, w⟩ ps.length W) := by
  refine F.ok S (fun vs H Q E h => ?_) (fun cdv A outer s H vs Q E hr h => ?_)
  · obtain ⟨F, T, φ, v, vs', as, P, rfl, _, _, _, _, h2, h3, _⟩ := h
    rw [← h3, List.length_cons, pairedLen h2]
  obtain ⟨a, hb1, hb2⟩ := hbody
  obtain ⟨F1, T, φ, v0, vs', as, Pd, rfl, b, hown, hat, hA, pr, hl, hw, q⟩ := h
  obtain ⟨t, h1, h2⟩ := (hb1 cdv A outer s H E hr).ex
  refine ⟨t, h1, h2 H F1 T T (.ln φ :: as ++ us) (L2.start N (v0 :: vs')) H F1 (r_startL b hown hat hA pr (by rw [hus, hl])) _ _ (fun T' v ψ env σ H' F' i r e1 e2 p => ?_) (hb2 φ as Pd hl hw)⟩
  obtain ⟨⟨v', z1, z2⟩, z3⟩ := r.ln i ψ e1
  rw [e2] at z1
  cases Option.some.inj (Option.some.inj z1)
  exact q v ψ H' F' ⟨r.sub, r.f0, r.new, r.keep, fun a t => Tws.le_ok (r.tw a (r.mt a t).1).2.1 (r.mt a t).2⟩ z2 p.1 (fun x hx => ⟨(z3 x hx).1, (z3 x hx).2.1, (z3 x hx).2.2.1 p.1⟩) p.2
theorem def_okDN {P : Program} {w : World} {K : PySem.W.Frag} {mg : Str → Option Value} {base : Heap} {k : Nat} {x qual : Str} {st : Stmt} {f : Addr} {fd : FuncData} {N ps : List Str} {W : WtN} (us : AE) (F : Fun K x qual st f fd) (S : FnScope N ps (defScope st))
    (gm : mg x = some (.ref f)) (hb : Binds K fd ps [])
    (hbody : ∃ a, (∀ (cdv : Value) (A : Around) (outer : List Env) (s : Shared) (H : Hp) (E : XK), Room k (A.deeper (envOfC qual (defScope st) s.heap.objs.size f cdv)) → JLs (cxOf CX0 P w K mg base N qual (defScope st) f cdv A outer s H E).nox (defBody st) a) ∧
      ∀ φ as Q, as.length + 1 = ps.length → W (.ln φ :: as) Q → φ.own = true → a (fun ψ env => ψ.own = true ∧ (∃ φ', env[0]? = some (.ln φ') ∧ LnTo φ φ') ∧ Q ψ) (.ln φ :: as ++ us))
    (hus : us = List.replicate (N.length - ps.length) Sl.un := by rfl) : ClDN P w K mg base (k + 1) x ps.length W := by
  refine ⟨f, fd, ps, F.ok S (fun vs H Q E h => ?_) (fun cdv A outer s H vs Q E hr h => ?_), gm, F.kp, hb⟩
  · obtain ⟨F, T, φ, v, vs', as, P, rfl, _, _, _, _, h2, h3, _⟩ := h
    rw [← h3, List.length_cons, pairedLen h2]
  obtain ⟨a, hb1, hb2⟩ := hbody
  obtain ⟨F1, T, φ, v0, vs', as, Pd, rfl, b, hown, hat, hA, pr, hl, hw, q⟩ := h
  obtain ⟨t, h1, h2⟩ := (hb1 cdv A outer s H E hr).ex
  refine ⟨t, h1, h2 (offL H φ.A) F1 T T (.ln φ :: as ++ us) (L2.start N (v0 :: vs')) H F1 (r_startM b hat hA pr (by rw [hus, hl])) _ _ (fun T' v ψ env σ H' F' i r e1 e2 p => ?_) (hb2 φ as Pd hl hw hown)⟩
  obtain ⟨p1, ⟨φ', p2, p3⟩, p4⟩ := p
  obtain ⟨⟨v', z1, z2⟩, z3⟩ := r.ln i ψ e1
  rw [e2] at z1
  cases Option.some.inj (Option.some.inj z1)
  obtain ⟨⟨u, y1, y2⟩, y3⟩ := r.ln 0 φ' p2
  have ev := p3.same hat y2
  subst ev
  refine q v ψ φ' H' F' p3 ⟨r.sub, r.f0, fun a o e => ?_, fun a o e nt na => r.keep a o (by unfold offL; rw [if_neg na]; exact e) nt, fun a t => Tws.le_ok (r.tw a (r.mt a t).1).2.1 (r.mt a t).2⟩ y2 (fun x hx => ?_) z2 p1 (fun x hx => ?_) p4
  · rcases r.new a o e with z | z
    · exact .inl z
    · rcases off_no z with w | w
      · exact .inr w
      · rw [(y3 a (p3.sub a w)).2.1] at e; cases e
  · obtain ⟨k1, k2, k3, _⟩ := y3 x hx
    exact ⟨k1, k2, (off_no (k3 p3.own.2)).symm⟩
  · obtain ⟨k1, k2, k3, _⟩ := z3 x hx
    exact ⟨k1, k2, off_no (k3 p1)⟩
/-- x.m(), a new thing -/
def OffOk (ψ : LnT) : Prop := ∀ (K : KW) (H F : Hp) (v : V) (ls : List Addr), ψ.at_ K H F v → (∀ x ∈ ls, ∃ xs, F x = some (.lst xs)) → ψ.at_ K H (offL F ls) v
section
variable {X : Cx} {pos p p2 px apos : Pos} {x y m : Str} {k n : Nat} {e1 e2 : Expr} {ν ν1 ν2 : AE → (LnT → Prop) → Prop}
def aCopy (i : Nat) (C : Addr) (m : Str) (W : WtN) : AE → (LnT → Prop) → Prop := fun env P => ∃ φ ψ0 ls, env[i]? = some (.ln φ) ∧ RdOk C m φ ψ0 ls ∧ W [.ln ψ0] fun ψ => OffOk ψ ∧ P ψ
theorem jn_copy (i : Nat) {C : Addr} {W : WtN} {pl : Sem Bool} (hC : Cls X.K C) (c : ClSN X.prog X.w X.K X.mg X.base k C m W) (hr : Room k X.A)
    (hN : X.N[i]? = some x := by rfl) (hv : Vis X.env.scope x := by first | exact Or.inl rfl | exact Or.inr (Or.inl rfl) | exact Or.inr (Or.inr rfl)) (hd : (x == ("__debug__" : Str)) = false := by decide)
    (hcd : (x == ("__classdict__" : Str)) = false := by decide)
    (he : eval (.Call (.Attribute (.Name x p) m apos) [] [] pos) X.env = (do
      let ov ← eval (.Name x p) X.env
      standAt apos.atName
      let y ← holding [ov] (getMethod ov m pl)
      match y with
      | (f, first) => callWith pos f first (backTo pos (starEach [] X.env)) (backToKw pos (keywordEach [] X.env))) := by rfl) : JN X (.Call (.Attribute (.Name x p) m apos) [] [] pos) (aCopy i C m W) := by
  obtain ⟨f, fd, ps, hF, hM, hB⟩ := c.ex
  refine ⟨_, pe_meth0 (pe_var hN hv hd hcd) hC hM hF hr hB .nil pass0 he, fun B F0 M T env σ H F R0 P p Q q => ?_⟩
  obtain ⟨φ, ψ, ls, p1, ok, p2⟩ := p
  obtain ⟨⟨v, h1, h2⟩, h3⟩ := R0.ln i φ p1
  obtain ⟨a, dx, fs, rfl, g1, g2⟩ := ok.ins _ H F v h2
  have fn : ∀ y ∈ ls, F y = none := fun y hy => (h3 y (ok.sub y hy)).2.1
  have l : Lent T H F ls := ⟨ok.lst _ H F _ h2, fun y hy => ⟨fn y hy, (h3 y (ok.sub y hy)).2.2.2.1⟩⟩
  refine ⟨_, h1, a, dx, fs, rfl, g1, g2, ?_⟩
  refine ⟨lendL H F ls, T, ψ, .ref a, [], [], _, rfl, lend_bs R0.bs l, ok.own, ok.at_ _ H F _ h2 fn, fun y hy => ?_, .nil, rfl, p2, fun w χ H' F' s at2 ow hA pd => ?_⟩
  · obtain ⟨y1, y2⟩ := ok.sub2 y hy
    obtain ⟨k1, k2, _, k4, _⟩ := h3 y y1
    exact ⟨k1, by unfold lendL; rw [if_neg y2]; exact k2, k4⟩
  · have hl : ∀ y ∈ ls, ∃ xs, F' y = some (.lst xs) := fun y hy => by
      obtain ⟨xs, e⟩ := l.at_ y hy
      exact ⟨xs, by rw [(lend_kept l s y hy).2]; exact e⟩
    refine q w χ H' _ (lend_back l s) (pd.1 _ _ _ _ ls at2 hl) ow (fun z hz => ?_) pd.2
    obtain ⟨y1, y2, y3⟩ := hA z hz
    exact ⟨y1, by unfold offL; split <;> first | rfl | exact y2, y3⟩
def InsAt (φ : LnT) (C : Addr) : Prop := ∀ (K : KW) (H F : Hp) (v : V), Sub F H → φ.at_ K H F v → ∃ a dx fs, v = .ref a ∧ H a = some (.ins C dx fs)
structure ClEq (P : Program) (w : World) (K : PySem.W.Frag) (mg : Str → Option Value) (base : Heap) (k : Nat) (C : Addr) (W : Wt) : Prop where
  ex : ∃ (f : Addr) (fd : FuncData) (ps : List Str), FnOk P w K mg base CX0 k f fd ps (spA ⟨K, P, w⟩ 2 W) ∧ EqCls K C f ∧ Binds K fd ps []
theorem ClEq.mono {P : Program} {w : World} {K : PySem.W.Frag} {mg : Str → Option Value} {base : Heap} {j k : Nat} {C : Addr} {W : Wt} (h : ClEq P w K mg base j C W) (l : j ≤ k) : ClEq P w K mg base k C W := by
  obtain ⟨f, fd, ps, h1, h2⟩ := h.ex
  exact ⟨f, fd, ps, h1.mono l, h2⟩
def ngOp (neg : Bool) : CmpOp := if neg then .NotEq else .Eq
theorem op_eqo {C : Addr} {W : Wt} {f : Addr} {fd : FuncData} {ps : List Str} (neg : Bool) (F : FnOk X.prog X.w X.K X.mg X.base CX0 n f fd ps (spA (kw X) 2 W)) (c : EqCls X.K C f) (hb : Binds X.K fd ps []) (hr : Room (n + 1) X.A) : OpR X (compareOp (ngOp neg)) (rOwn neg C (spA (kw X) 2 W)) := by
  cases neg with
  | true => exact op_ownNe F c hb hr
  | false => exact op_ownEq F c hb hr
def aEqZ (neg : Bool) (i j : Nat) (C : Addr) (W : Wt) : ATx := fun env P => ∃ φ ψ, env[i]? = some (.ln φ) ∧ env[j]? = some (.ln ψ) ∧ φ.A = [] ∧ ψ.A = [] ∧ InsAt φ C ∧ InsAt ψ C ∧ W [.ln φ, .ln ψ] fun d => ∃ b, d = .bool b ∧ P (b != neg)
theorem jt_eqZ (neg : Bool) (i j : Nat) {C : Addr} {W : Wt} (c : ClEq X.prog X.w X.K X.mg X.base n C W) (hr : Room (n + 1) X.A)
    (hN : X.N[i]? = some x := by rfl) (hv : Vis X.env.scope x := by first | exact Or.inl rfl | exact Or.inr (Or.inl rfl) | exact Or.inr (Or.inr rfl)) (hd : (x == ("__debug__" : Str)) = false := by decide) (hcd : (x == ("__classdict__" : Str)) = false := by decide)
    (hN2 : X.N[j]? = some y := by rfl) (hv2 : Vis X.env.scope y := by first | exact Or.inl rfl | exact Or.inr (Or.inl rfl) | exact Or.inr (Or.inr rfl)) (hd2 : (y == ("__debug__" : Str)) = false := by decide) (hcd2 : (y == ("__classdict__" : Str)) = false := by decide)
    (hm : behindInMarks (ngOp neg) (.Name y p2) = false := by rfl) : JT X (.Compare (.Name x p) [ngOp neg] [.Name y p2] pos) (aEqZ neg i j C W) := by
  obtain ⟨f, fd, ps, hF, hc, hB⟩ := c.ex
  refine ⟨_, pt_cmpR (op_eqo neg hF hc hB hr) (pe_var hN hv hd hcd) (pe_var hN2 hv2 hd2 hcd2) hm, fun B F0 M T env σ H F R0 P p Q q => ?_⟩
  obtain ⟨φ, ψ, p1, p2, A1, A2, i1, i2, w⟩ := p
  obtain ⟨⟨v, e1, e2⟩, _⟩ := R0.ln i φ p1
  obtain ⟨⟨u, g1, g2⟩, _⟩ := R0.ln j ψ p2
  obtain ⟨a, dx, fs, rfl, ea⟩ := i1 _ H F v R0.sub e2
  obtain ⟨b, dy, gs, rfl, eb⟩ := i2 _ H F u R0.sub g2
  refine ⟨_, e1, _, g1, a, dx, fs, rfl, ea, .inr (.inl ⟨b, dy, gs, rfl, eb⟩), F, T, _, _, R0.bs, .cons (.ln (H := H) A1 e2) (.cons (.ln (H := H) A2 g2) .nil), rfl, w, fun z d H' F' s rd pd => ?_⟩
  obtain ⟨bb, rfl, pd⟩ := pd
  cases rd
  exact ⟨bb, rfl, _, rfl, q _ H' F' s pd⟩
def aEqD (neg : Bool) (i : Nat) (C : Addr) (W : Wt) (β : AEx) : ATx := fun env P => ∃ φ, env[i]? = some (.ln φ) ∧ φ.A = [] ∧ InsAt φ C ∧ β env fun d => ((∃ z, d = .int z) ∨ ∃ ds, d = .list ds) ∧ W [.ln φ, .va d] fun d => ∃ b, d = .bool b ∧ P (b != neg)
theorem jt_eqD (neg : Bool) (i : Nat) {C : Addr} {W : Wt} {β : AEx} {e : Expr} (c : ClEq X.prog X.w X.K X.mg X.base n C W) (hr : Room (n + 1) X.A) (hβ : JE X e β)
    (hN : X.N[i]? = some x := by rfl) (hv : Vis X.env.scope x := by first | exact Or.inl rfl | exact Or.inr (Or.inl rfl) | exact Or.inr (Or.inr rfl)) (hd : (x == ("__debug__" : Str)) = false := by decide) (hcd : (x == ("__classdict__" : Str)) = false := by decide)
    (hm : behindInMarks (ngOp neg) e = false := by rfl) : JT X (.Compare (.Name x p) [ngOp neg] [e] pos) (aEqD neg i C W β) := by
  obtain ⟨f, fd, ps, hF, hc, hB⟩ := c.ex
  obtain ⟨t, h1, h2⟩ := hβ.ex
  refine ⟨_, pt_cmpR (op_eqo neg hF hc hB hr) (pe_var hN hv hd hcd) h1 hm, fun B F0 M T env σ H F R0 P p Q q => ?_⟩
  obtain ⟨φ, p1, A1, i1, p2⟩ := p
  obtain ⟨⟨v, e1, e2⟩, _⟩ := R0.ln i φ p1
  refine ⟨_, e1, h2 B F0 M T env σ H F R0 _ p2 _ fun u d H1 F1 s1 rd p3 => ?_⟩
  obtain ⟨hd, w⟩ := p3
  have R1 := R0.step s1
  have e2' : φ.at_ (kw X) H1 F1 v := φ.mono e2 (fun x hx => by rw [A1] at hx; cases hx) s1.ext
  obtain ⟨a, dx, fs, rfl, ea⟩ := i1 _ H1 F1 v R1.sub e2'
  have rt : RtOk H1 C u := by
    rcases hd with ⟨z, rfl⟩ | ⟨ds, rfl⟩
    · cases rd; exact .inl ⟨_, rfl⟩
    · cases rd with | @lst b xs _ x y => exact .inr (.inr ⟨b, xs, rfl, R1.sub _ _ x⟩)
  refine ⟨a, dx, fs, rfl, ea, rt, F1, T, _, _, R1.bs, .cons (.ln (H := H1) A1 e2') (.cons (.va rd) .nil), rfl, w, fun z d H' F' s rd pd => ?_⟩
  obtain ⟨bb, rfl, pd⟩ := pd
  cases rd
  exact ⟨bb, rfl, _, rfl, q _ H' F' (s1.trans s) pd⟩
theorem lend_bsA {K : KW} {T : Tws K} {H F : Hp} {A : List Addr} (b : Bs T H F) (nt : ∀ x ∈ A, ¬ T x) : Bs T H (lendL H F A) := by
  refine ⟨fun a o e => ?_, fun a t => ⟨?_, (b.tw a t).2⟩⟩
  · unfold lendL at e
    by_cases q : a ∈ A
    · rw [if_pos q] at e; exact e
    · rw [if_neg q] at e; exact b.sub a o e
  · unfold lendL
    rw [if_neg fun q => nt a q t]
    exact (b.tw a t).1
theorem lend_subA {H F : Hp} {A : List Addr} (n : ∀ x ∈ A, F x = none) : Sub F (lendL H F A) := fun a o e => by
  unfold lendL
  by_cases q : a ∈ A
  · rw [n a q] at e; cases e
  · rw [if_neg q]; exact e
/-- two new things compared -/
def aEqN (neg : Bool) (C : Addr) (W : Wt) (ν1 ν2 : AE → (LnT → Prop) → Prop) : AEx := fun env P => ν1 env fun φ1 => ν2 env fun φ2 => ∃ ψ1 ψ2, LendOk φ1 ψ1 ∧ LendOk φ2 ψ2 ∧ InsAt ψ1 C ∧ InsAt ψ2 C ∧ W [.ln ψ1, .ln ψ2] fun d => ∃ b, d = .bool b ∧ P (.bool (b != neg))
theorem je_eqN (neg : Bool) {C : Addr} {W : Wt} (c : ClEq X.prog X.w X.K X.mg X.base n C W) (hr : Room (n + 1) X.A) (h1 : JN X e1 ν1) (h2 : JN X e2 ν2) (hm : behindInMarks (ngOp neg) e2 = false := by rfl) : JE X (.Compare e1 [ngOp neg] [e2] pos) (aEqN neg C W ν1 ν2) := by
  obtain ⟨f, fd, ps, hF, hc, hB⟩ := c.ex
  obtain ⟨t1, a1, a2⟩ := h1.ex
  obtain ⟨t2, b1, b2⟩ := h2.ex
  refine ⟨_, pe_cmpR (op_eqo neg hF hc hB hr) a1 b1 hm, fun B F0 M T env σ H F R0 P p Q q => ?_⟩
  refine a2 B F0 M T env σ H F R0 _ p _ fun v φ1 H1 F1 s1 at1 ow1 hA1 p1 => ?_
  have R1 := R0.step s1
  refine b2 B F0 M T env σ H1 F1 R1 _ p1 _ fun u φ2 H2 F2 s2 at2 ow2 hA2 p2 => ?_
  obtain ⟨ψ1, ψ2, l1, l2, i1, i2, w⟩ := p2
  have R2 := R1.step s2
  have nt1 : ∀ x ∈ φ1.A, ¬ T x := fun x hx t => by
    obtain ⟨o, y⟩ := Tws.has (R0.tw x t).2.1
    rw [(hA1 x hx).2.2] at y; cases y
  have nt2 : ∀ x ∈ φ2.A, ¬ T x := fun x hx t => by
    obtain ⟨o, y⟩ := Tws.has (R1.tw x t).2.1
    rw [(hA2 x hx).2.2] at y; cases y
  have f1 : ∀ x ∈ φ1.A, F2 x = none := fun x hx => by
    cases e : F2 x with
    | none => rfl
    | some o =>
      rcases s2.new x o e with z | z
      · rw [(hA1 x hx).2.1] at z; cases z
      · obtain ⟨o', ho⟩ := (hA1 x hx).1
        rw [ho] at z; cases z
  have at1' : φ1.at_ (kw X) H2 F2 v := φ1.mono at1 (fun x hx => by
    obtain ⟨o, ho⟩ := (hA1 x hx).1
    rw [ho]; exact s2.keep x o ho (nt1 x hx)) s2.ext
  have dj : ∀ x ∈ φ2.A, x ∉ φ1.A := fun x hx hz => by
    obtain ⟨o, ho⟩ := (hA1 x hz).1
    rw [(hA2 x hx).2.2] at ho; cases ho
  have f2 : ∀ x ∈ φ2.A, lendL H2 F2 φ1.A x = none := fun x hx => by
    unfold lendL
    rw [if_neg (dj x hx)]; exact (hA2 x hx).2.1
  have z1 := l1.at_ _ H2 F2 v at1' f1
  have sb1 := lend_subA (H := H2) f1
  have sb2 := lend_subA (H := H2) f2
  have z2 := l2.at_ _ H2 (lendL H2 F2 φ1.A) u (φ2.mono at2 (fun _ _ => rfl) sb1) f2
  have z1' : ψ1.at_ (kw X) H2 (lendL H2 (lendL H2 F2 φ1.A) φ2.A) v := ψ1.mono z1 (fun _ _ => rfl) sb2
  have bs := lend_bsA (lend_bsA R2.bs nt1) nt2
  obtain ⟨a, dx, fs, rfl, ea⟩ := i1 _ H2 _ v bs.sub z1'
  obtain ⟨b, dy, gs, rfl, eb⟩ := i2 _ H2 _ u bs.sub z2
  refine ⟨a, dx, fs, rfl, ea, .inr (.inl ⟨b, dy, gs, rfl, eb⟩), _, T, _, _, bs, .cons (.ln (H := H2) l1.nil z1') (.cons (.ln (H := H2) l2.nil z2) .nil), rfl, w, fun z d H' F' s rd pd => ?_⟩
  obtain ⟨bb, rfl, pd⟩ := pd
  cases rd
  have st : Stp T H2 F2 H' F2 := ⟨fun a o e => s.keep a o (R2.sub a o e) (fun t => (by rw [(R2.tw a t).1] at e; cases e)), Sub.refl F2, fun _ _ h => .inl h, s.keep, s.tc⟩
  exact ⟨bb, rfl, q _ _ H' F2 ((s1.trans s2).trans st) (.bl _) pd⟩
/-- x is None, x a thing -/
def aNoneL (i : Nat) (C : Addr) : ATx := fun env P => ∃ φ, env[i]? = some (.ln φ) ∧ (∀ (K : KW) (H F : Hp) (v : V), φ.at_ K H F v → ∃ a : Addr, v = .ref a) ∧ P false
theorem jt_noneL (i : Nat) {C : Addr} {q : Pos} {kk : Nat} (hN : X.N[i]? = some x := by rfl) (hv : Vis X.env.scope x := by first | exact Or.inl rfl | exact Or.inr (Or.inl rfl) | exact Or.inr (Or.inr rfl)) (hd : (x == ("__debug__" : Str)) = false := by decide) (hcd : (x == ("__classdict__" : Str)) = false := by decide) :
    JT X (.Compare (.Name x p) [.Is] [.Constant .none kk q] pos) (aNoneL i C) := by
  obtain ⟨u, c1, c2⟩ := (j_non (X := X) (pos := q) (j := kk)).ex
  refine ⟨_, pt_cmpR op_isN (pe_var hN hv hd hcd) c1 (nomark _), fun B F0 M T env σ H F R0 P p Q q => ?_⟩
  obtain ⟨φ, p1, hr, p2⟩ := p
  obtain ⟨⟨v, e1, e2⟩, _⟩ := R0.ln i φ p1
  obtain ⟨a, rfl⟩ := hr _ H F v e2
  refine ⟨_, e1, c2 B F0 M T env σ H F R0 (fun d => d = .none) rfl _ fun w d H1 F1 s1 rd pd => ?_⟩
  subst pd
  cases rd
  exact ⟨rfl, false, rfl, q false H1 F1 s1 p2⟩
end
end Ab
namespace Lr
open PySem PySem.Spec PyProof.Rows Ab L2
def Dk.get (c : Dk) : Bool → List Int
  | true => c.cs
  | false => c.un
def Dk.put (c : Dk) (b : Bool) (xs : List Int) : Dk := match b with
  | true => { c with cs := xs }
  | false => { c with un := xs }
def dkN : Bool → Str
  | true => "_comings"
  | false => "_undone"
def dkL (b : Bool) (l1 l2 : Addr) : Addr := match b with
  | true => l1
  | false => l2
section
variable {K : KW} {H F : Hp} {v : V} {C a dx l1 l2 : Addr} {c : Dk}
theorem dk_fld (b : Bool) (h : (dkT C a dx l1 l2 c).at_ K H F v) : v = .ref a ∧ Cls K C ∧ NoAttr K C (dkN b) ∧ ∃ fs, H a = some (.ins C dx fs) ∧ fs.lookup (dkN b) = some (.ref (dkL b l1 l2)) ∧ H (dkL b l1 l2) = some (.lst ((c.get b).map V.int)) := by
  obtain ⟨h1, hc, h2, h3, h4, h5, vC, vR, h6, h7, h8⟩ := h
  cases b with
  | true => exact ⟨h1, hc.cls, hc.f3, _, h6, rfl, h4⟩
  | false => exact ⟨h1, hc.cls, hc.f4, _, h6, rfl, h5⟩
theorem dk_in (b : Bool) : dkL b l1 l2 ∈ (dkT C a dx l1 l2 c).A := by
  show dkL b l1 l2 ∈ [a, dx, l1, l2]
  cases b <;> simp [dkL]
theorem dk_put (b : Bool) (xs : List Int) (h : (dkT C a dx l1 l2 c).at_ K H F v) : (dkT C a dx l1 l2 (c.put b xs)).at_ K (upd H (dkL b l1 l2) (.lst (xs.map V.int))) F v := by
  obtain ⟨h1, hc, h2, h3, h4, h5, vC, vR, h6, h7, h8⟩ := h
  have nd := h2
  simp only [List.nodup_cons, List.mem_cons, List.not_mem_nil, or_false, not_or, List.nodup_nil, and_true, not_false_eq_true] at nd
  obtain ⟨⟨n1, n2, n3⟩, ⟨n4, n5⟩, n6⟩ := nd
  cases b with
  | true => exact ⟨h1, hc, h2, by show upd H l1 _ dx = _; rw [upd_ne n4]; exact h3, upd_same, by show upd H l1 _ l2 = _; rw [upd_ne (Ne.symm n6)]; exact h5, vC, vR, by show upd H l1 _ a = _; rw [upd_ne n2]; exact h6, h7, h8⟩
  | false => exact ⟨h1, hc, h2, by show upd H l2 _ dx = _; rw [upd_ne n5]; exact h3, by show upd H l2 _ l1 = _; rw [upd_ne n6]; exact h4, upd_same, vC, vR, by show upd H l2 _ a = _; rw [upd_ne n3]; exact h6, h7, h8⟩
theorem dk_to {c' : Dk} : LnTo (dkT C a dx l1 l2 c) (dkT C a dx l1 l2 c') := ⟨⟨rfl, rfl⟩, fun x hx => hx, fun {K H F H' F' v v'} h h' => by rw [h.1, h'.1]⟩
theorem dk_ins {m : Str} (hm : m ≠ "_crossing" ∧ m ≠ "_rule" ∧ m ≠ "_comings" ∧ m ≠ "_undone") (K : KW) (H F : Hp) (v : V) (h : (dkT C a dx l1 l2 c).at_ K H F v) : ∃ a dx fs, v = .ref a ∧ H a = some (.ins C dx fs) ∧ fs.lookup m = none := by
  obtain ⟨h1, hc, h2, h3, h4, h5, vC, vR, h6, h7, h8⟩ := h
  refine ⟨a, dx, _, h1, h6, ?_⟩
  have e : ∀ y : Str, m ≠ y → (m == y) = false := fun y h => beq_eq_false_iff_ne.mpr h
  simp only [dkF, List.lookup, e _ hm.1, e _ hm.2.1, e _ hm.2.2.1, e _ hm.2.2.2]
end
section
variable {X : Cx} {e : Expr} {pos p apos fpos px : Pos} {x y : Str} {α : AEx}
/-- self._comings.append(e), self._undone.append(e) -/
def aFApp (i : Nat) (b : Bool) (α : AEx) : ASx := fun A env => ∃ C a dx l1 l2 c, env[i]? = some (.ln (dkT C a dx l1 l2 c)) ∧ noLn env i = true ∧ (c.get b).length < 1000 ∧ α env fun d => ∃ k, d = .int k ∧ A.nx (env.set i (.ln (dkT C a dx l1 l2 (c.put b (c.get b ++ [k])))))
theorem dk_wr {B F0 : Hp} {M T : Tws (kw X)} {env : AE} {σ : L2.St} {H F : Hp} {i : Nat} {C a dx l1 l2 : Addr} {c : Dk} (R0 : R (kw X) B F0 M T env σ H F) (h : env[i]? = some (.ln (dkT C a dx l1 l2 c))) (one : noLn env i = true) (b : Bool) (xs : List Int) :
    R (kw X) B F0 M T (env.set i (.ln (dkT C a dx l1 l2 (c.put b xs)))) σ (upd H (dkL b l1 l2) (.lst (xs.map V.int))) F := by
  obtain ⟨⟨v, h1, h2⟩, h3⟩ := R0.ln i _ h
  obtain ⟨_, _, _, fs, _, _, hl⟩ := dk_fld b h2
  obtain ⟨k1, k2, _, k4, _⟩ := h3 _ (dk_in b)
  refine R0.lnMut h one (StpA.upd R0.bs (dk_in b) k4 k2 (.inr (by rw [hl]; trivial))) rfl rfl (fun u hu => dk_put b xs hu) fun z hz => ?_
  obtain ⟨y1, y2, _, _, _⟩ := h3 z hz
  refine ⟨?_, y2, .inl hz⟩
  by_cases q : z = dkL b l1 l2
  · exact ⟨_, by rw [q]; exact upd_same⟩
  · obtain ⟨o, y1⟩ := y1
    exact ⟨o, by rw [upd_ne q]; exact y1⟩
theorem js_fapp (i : Nat) (b : Bool) (he : JE X e α) (hN : X.N[i]? = some x := by rfl) (hv : Vis X.env.scope x := by first | exact Or.inl rfl | exact Or.inr (Or.inl rfl) | exact Or.inr (Or.inr rfl)) (hd : (x == ("__debug__" : Str)) = false := by decide)
    (hcd : (x == ("__classdict__" : Str)) = false := by decide) (hbf : attributeBase (.Name x px) (dkN b) X.env (eval (.Name x px) X.env) = eval (.Name x px) X.env := by rfl)
    (hbase : attributeBase (.Attribute (.Name x px) (dkN b) fpos) "append" X.env (eval (.Attribute (.Name x px) (dkN b) fpos) X.env) = eval (.Attribute (.Name x px) (dkN b) fpos) X.env := by rfl)
    (hfew : ((backTo p (starEach [e] X.env)).all (fun x => !x.1) && (backToKw p (keywordEach [] X.env)).all (fun x => x.1.isSome)
      && decide ([e].length + ([] : List Keyword).length + (if ([] : List Keyword).isEmpty then 0 else 1) < 30)) = true := by rfl)
    (hline : (apos.endLine == p.line) = true := by rfl) (hs : starEach [e] X.env = (false, eval e X.env) :: starEach [] X.env := by rfl) (hplain : (backTo p (starEach [] X.env)).any (·.1) = false := by rfl)
    (hsw : swapsWith (.Call (.Attribute (.Attribute (.Name x px) (dkN b) fpos) "append" apos) [e] [] p) none pos.line X.env = pure false := by rfl) : JS X (.Expr (.Call (.Attribute (.Attribute (.Name x px) (dkN b) fpos) "append" apos) [e] [] p) pos) (aFApp i b α) := by
  obtain ⟨t, h1, h2⟩ := he.ex
  refine ⟨_, ps_expr (pe_bm PySem.F.plainAttrs_list PySem.F.slot_list_append PySem.F.type_list_append mt_append (pe_fld (pe_var hN hv hd hcd) hbf) (pa_cons h1 pa_nil hs) hbase hfew hline hs hplain) hsw, fun B F0 M T env σ H F R0 A D l p => ?_⟩
  obtain ⟨C, a, dx, l1, l2, c, p1, one, hlen, p2⟩ := p
  obtain ⟨⟨v, g1, g2⟩, g3⟩ := R0.ln i _ p1
  obtain ⟨rfl, cl, na, fs, ha, hlk, hl⟩ := dk_fld b g2
  refine ⟨_, g1, a, C, dx, fs, _, rfl, ha, cl, na, hlk, .inl ⟨rfl, _, .inl (.inl hl)⟩, h2 B F0 M T env σ H F R0 _ p2 _ fun w d H1 F1 s1 d1 p3 => ?_⟩
  obtain ⟨k, rfl, p3⟩ := p3
  cases d1
  have R1 := R0.step s1
  obtain ⟨⟨v', g1', g2'⟩, _⟩ := R1.ln i _ p1
  obtain ⟨_, _, _, _, _, _, hl'⟩ := dk_fld b g2'
  refine ⟨_, _, _, rfl, rfl, hl', by rw [List.length_map, sizeLine_eq]; omega, ?_⟩
  have R2 := dk_wr R1 p1 one b (c.get b ++ [k])
  rw [List.map_append] at R2
  exact l.nx T _ σ _ F1 R2 p3
/-- self._undone.clear() -/
def aFClr (i : Nat) (b : Bool) : ASx := fun A env => ∃ C a dx l1 l2 c, env[i]? = some (.ln (dkT C a dx l1 l2 c)) ∧ noLn env i = true ∧ A.nx (env.set i (.ln (dkT C a dx l1 l2 (c.put b []))))
theorem js_fclr (i : Nat) (b : Bool) (hN : X.N[i]? = some x := by rfl) (hv : Vis X.env.scope x := by first | exact Or.inl rfl | exact Or.inr (Or.inl rfl) | exact Or.inr (Or.inr rfl)) (hd : (x == ("__debug__" : Str)) = false := by decide)
    (hcd : (x == ("__classdict__" : Str)) = false := by decide) (hbf : attributeBase (.Name x px) (dkN b) X.env (eval (.Name x px) X.env) = eval (.Name x px) X.env := by rfl)
    (hbase : attributeBase (.Attribute (.Name x px) (dkN b) fpos) "clear" X.env (eval (.Attribute (.Name x px) (dkN b) fpos) X.env) = eval (.Attribute (.Name x px) (dkN b) fpos) X.env := by rfl)
    (hline : (apos.endLine == p.line) = true := by rfl)
    (hsw : swapsWith (.Call (.Attribute (.Attribute (.Name x px) (dkN b) fpos) "clear" apos) [] [] p) none pos.line X.env = pure false := by rfl) : JS X (.Expr (.Call (.Attribute (.Attribute (.Name x px) (dkN b) fpos) "clear" apos) [] [] p) pos) (aFClr i b) := by
  refine ⟨_, ps_expr (pe_bm0 PySem.F.plainAttrs_list PySem.F.slot_list_clear PySem.F.type_list_clear mt_clear (pe_fld (pe_var hN hv hd hcd) hbf) hbase hline) hsw, fun B F0 M T env σ H F R0 A D l p => ?_⟩
  obtain ⟨C, a, dx, l1, l2, c, p1, one, p2⟩ := p
  obtain ⟨⟨v, g1, g2⟩, g3⟩ := R0.ln i _ p1
  obtain ⟨rfl, cl, na, fs, ha, hlk, hl⟩ := dk_fld b g2
  exact ⟨_, g1, a, C, dx, fs, _, rfl, ha, cl, na, hlk, .inl ⟨rfl, _, .inl (.inl hl)⟩, _, _, rfl, rfl, hl, l.nx T _ σ _ F (dk_wr R0 p1 one b []) p2⟩
/-- len(self._comings) -/
def aFLen (i : Nat) (b : Bool) : AEx := fun env P => ∃ C a dx l1 l2 c, env[i]? = some (.ln (dkT C a dx l1 l2 c)) ∧ P (.int ((c.get b).length : Int))
theorem je_flen (i : Nat) (b : Bool) (hm : X.mg y = none) (hv' : bootBuiltins y = some (.builtin "len")) (hg : Gl X y := by rfl) (hN : X.N[i]? = some x := by rfl) (hv : Vis X.env.scope x := by first | exact Or.inl rfl | exact Or.inr (Or.inl rfl) | exact Or.inr (Or.inr rfl)) (hd : (x == ("__debug__" : Str)) = false := by decide)
    (hcd : (x == ("__classdict__" : Str)) = false := by decide) (hbf : attributeBase (.Name x px) (dkN b) X.env (eval (.Name x px) X.env) = eval (.Name x px) X.env := by rfl) (hn : y ≠ "__name__" := by decide) (hdb : (y == ("__debug__" : Str)) = false := by decide)
    (he : starEach [.Attribute (.Name x px) (dkN b) fpos] X.env = (false, eval (.Attribute (.Name x px) (dkN b) fpos) X.env) :: starEach [] X.env := by rfl) (hpl : (backTo p (starEach [] X.env)).any (·.1) = false := by rfl) : JE X (.Call (.Name y pos) [.Attribute (.Name x px) (dkN b) fpos] [] p) (aFLen i b) := by
  refine ⟨_, pe_callB call_len_seq hg hm hv' (pa_cons (pe_fld (pe_var hN hv hd hcd) hbf) pa_nil he) hn hdb he hpl, fun B F0 M T env σ H F R0 P p Q q => ?_⟩
  obtain ⟨C, a, dx, l1, l2, c, p1, p2⟩ := p
  obtain ⟨⟨v, g1, g2⟩, g3⟩ := R0.ln i _ p1
  obtain ⟨rfl, cl, na, fs, ha, hlk, hl⟩ := dk_fld b g2
  exact ⟨_, g1, a, C, dx, fs, _, rfl, ha, cl, na, hlk, _, _, rfl, .inl (.inl (.inl hl)), by rw [List.length_map]; exact q _ _ H F (.refl R0.bs) (.int _) p2⟩
end
inductive Fd where
  | da (d : DD) | ls (l : Addr) (xs : List Int)
def Fd.adr : Fd → List Addr
  | .da _ => []
  | .ls l _ => [l]
def FdRp (K : KW) (H F : Hp) (v : V) : Fd → Prop
  | .da d => Rp K F v d
  | .ls l xs => v = .ref l ∧ H l = some (.lst (xs.map V.int))
def obA (a dx : Addr) (fs : List (Str × Fd)) : List Addr := a :: dx :: fs.flatMap fun f => f.2.adr
theorem FdRp.mono {K : KW} {H F H' F' : Hp} {v : V} {f : Fd} (h : FdRp K H F v f) (k : ∀ x ∈ f.adr, H' x = H x) (s : Sub F F') : FdRp K H' F' v f := by
  cases f with
  | da d => exact Rp.sub s _ h
  | ls l xs => exact ⟨h.1, by rw [k l (by simp [Fd.adr])]; exact h.2⟩
abbrev FdsRp (K : KW) (H F : Hp) : List (Str × V) → List (Str × Fd) → Prop := Paired fun g f => g.1 = f.1 ∧ FdRp K H F g.2 f.2
theorem FdsRp.mono {K : KW} {H F H' F' : Hp} : ∀ {gs : List (Str × V)} {fs : List (Str × Fd)}, FdsRp K H F gs fs → (∀ x ∈ fs.flatMap fun f => f.2.adr, H' x = H x) → Sub F F' → FdsRp K H' F' gs fs
  | _, _, .nil, _, _ => .nil
  | _, _, .cons a b, k, s => .cons ⟨a.1, a.2.mono (fun x hx => k x (by rw [List.flatMap_cons]; exact List.mem_append_left _ hx)) s⟩ (FdsRp.mono b (fun x hx => k x (by rw [List.flatMap_cons]; exact List.mem_append_right _ hx)) s)
/-- a desk that is being made -/
def obI (C a dx : Addr) (fs : List (Str × Fd)) : LnT where
  A := obA a dx fs
  own := true
  at_ := fun K H F v => v = .ref a ∧ DkCls K C ∧ (obA a dx fs).Nodup ∧ H dx = some (.own a) ∧ ∃ gs, H a = some (.ins C dx gs) ∧ FdsRp K H F gs fs
  mono := fun {K H F H' F' v} h k s => by
    obtain ⟨h1, hc, h2, h3, gs, h4, h5⟩ := h
    exact ⟨h1, hc, h2, by rw [k dx (by simp [obA])]; exact h3, gs, by rw [k a (by simp [obA])]; exact h4, h5.mono (fun x hx => k x (by unfold obA; exact List.mem_cons_of_mem _ (List.mem_cons_of_mem _ hx))) s⟩
def DkF (f : Str) : Prop := f = "_crossing" ∨ f = "_rule" ∨ f = "_comings" ∨ f = "_undone"
theorem DkCls.no {K : PySem.W.Frag} {C : Addr} {f : Str} (h : DkCls K C) (hf : DkF f) : NoAttr K C f := by
  rcases hf with rfl | rfl | rfl | rfl
  · exact h.f1
  · exact h.f2
  · exact h.f3
  · exact h.f4
theorem putF_new {f : Str} {v : V} : ∀ {gs : List (Str × V)}, f ∉ gs.map (·.1) → putF f v gs = gs ++ [(f, v)]
  | [], _ => rfl
  | (g, y) :: r, h => by
    simp only [List.map_cons, List.mem_cons, not_or] at h
    show (if g = f then (g, v) :: r else (g, y) :: putF f v r) = _
    rw [if_neg (fun z => h.1 z.symm), putF_new h.2]
    rfl
theorem FdsRp.names {K : KW} {H F : Hp} : ∀ {gs : List (Str × V)} {fs : List (Str × Fd)}, FdsRp K H F gs fs → gs.map (·.1) = fs.map (·.1)
  | _, _, .nil => rfl
  | _, _, .cons a b => by rw [List.map_cons, List.map_cons, a.1, FdsRp.names b]
theorem FdsRp.snoc {K : KW} {H F : Hp} {f : Str} {v : V} {d : Fd} : ∀ {gs : List (Str × V)} {fs : List (Str × Fd)}, FdsRp K H F gs fs → FdRp K H F v d → FdsRp K H F (gs ++ [(f, v)]) (fs ++ [(f, d)])
  | _, _, .nil, h => .cons ⟨rfl, h⟩ .nil
  | _, _, .cons a b, h => .cons a (FdsRp.snoc b h)
section
variable {X : Cx} {e : Expr} {pos p apos fpos px : Pos} {x f : Str} {α : AEx} {β : AOx}
theorem obA_snoc {a dx : Addr} {fs : List (Str × Fd)} {f : Str} {d : Fd} : obA a dx (fs ++ [(f, d)]) = obA a dx fs ++ d.adr := by
  simp [obA, List.flatMap_append]
theorem ob_wr {K : KW} {B F0 : Hp} {M T : Tws K} {env : AE} {σ : L2.St} {H F H1 F1 : Hp} {i : Nat} {C a dx : Addr} {fs : List (Str × Fd)} {f : Str} {d : Fd} {y : V} {gs : List (Str × V)} (R0 : R K B F0 M T env σ H F) (s1 : Stp T H F H1 F1) (h : env[i]? = some (.ln (obI C a dx fs))) (one : noLn env i = true)
    (hg : H1 a = some (.ins C dx gs)) (hn : f ∉ fs.map (·.1)) (hd : FdRp K H1 F1 y d) (hnew : ∀ x ∈ d.adr, H x = none ∧ (∃ o, H1 x = some o) ∧ F1 x = none) (hnd : d.adr.Nodup) :
    R K B F0 M T (env.set i (.ln (obI C a dx (fs ++ [(f, d)])))) σ (upd H1 a (.ins C dx (putF f y gs))) F1 := by
  have R1 := R0.step s1
  obtain ⟨⟨v0, g10, g20⟩, g30⟩ := R0.ln i _ h
  obtain ⟨⟨v, g1, g2⟩, g3⟩ := R1.ln i _ h
  have ina : a ∈ (obI C a dx fs).A := by show a ∈ obA a dx fs; simp [obA]
  obtain ⟨k1, k2, _, k4, _⟩ := g3 a ina
  have offA : ∀ x ∈ d.adr, x ∉ obA a dx fs := fun x hx hz => by
    obtain ⟨⟨o, y1⟩, _⟩ := g30 x hz
    rw [(hnew x hx).1] at y1; cases y1
  refine R0.lnMut h one (StpA.after s1 (StpA.upd R1.bs ina k4 k2 (.inr (by rw [hg]; trivial)))) rfl rfl (fun u hu => ?_) fun z hz => ?_
  · have hu1 : (obI C a dx fs).at_ K H1 F1 u := (obI C a dx fs).mono hu (fun x hx => by
      obtain ⟨⟨o, ho⟩, _, _, nt, _⟩ := g30 x hx
      rw [ho]; exact s1.keep x o ho nt) s1.ext
    obtain ⟨q1, q2, q3, q4, gs', q5, q6⟩ := hu1
    · rw [hg] at q5
      cases q5
      have nd : (obA a dx (fs ++ [(f, d)])).Nodup := by
        rw [obA_snoc]
        exact List.nodup_append.mpr ⟨q3, hnd, fun x hx y hy z => offA y hy (z ▸ hx)⟩
      have ne : ∀ x ∈ dx :: (fs ++ [(f, d)]).flatMap fun f => f.2.adr, x ≠ a := fun x hx z => by
        subst z
        exact (List.nodup_cons.mp nd).1 hx
      refine ⟨q1, q2, nd, by rw [upd_ne (ne dx List.mem_cons_self)]; exact q4, gs ++ [(f, y)], by rw [upd_same, putF_new (by rw [q6.names]; exact hn)], ?_⟩
      exact (q6.snoc hd).mono (fun x hx => by rw [upd_ne (ne x (List.mem_cons_of_mem _ hx))]) (Sub.refl _)
  · have hz : z ∈ obA a dx (fs ++ [(f, d)]) := hz
    rw [obA_snoc, List.mem_append] at hz
    by_cases q : z = a
    · subst q
      exact ⟨⟨_, upd_same⟩, k2, .inl ina⟩
    · rw [upd_ne q]
      rcases hz with hz | hz
      · obtain ⟨y1, y2, _⟩ := g3 z hz
        exact ⟨y1, y2, .inl hz⟩
      · obtain ⟨y1, y2, y3⟩ := hnew z hz
        exact ⟨y2, y3, .inr y1⟩
/-- self.f = e, a datum -/
def aFSet (i : Nat) (f : Str) (α : AEx) : ASx := fun A env => α env fun d => ∃ C a dx fs, env[i]? = some (.ln (obI C a dx fs)) ∧ noLn env i = true ∧ f ∉ fs.map (·.1) ∧ fs.length < 4 ∧ DkF f ∧ A.nx (env.set i (.ln (obI C a dx (fs ++ [(f, .da d)]))))
theorem js_fset (i : Nat) (he : JE X e α) (hN : X.N[i]? = some x := by rfl) (hv : Vis X.env.scope x := by first | exact Or.inl rfl | exact Or.inr (Or.inl rfl) | exact Or.inr (Or.inr rfl)) (hd : (x == ("__debug__" : Str)) = false := by decide)
    (hcd : (x == ("__classdict__" : Str)) = false := by decide) (hs : swapsWith e (some (.Attribute (.Name x px) f apos)) pos.line X.env = pure false := by rfl) : JS X (.Assign [.Attribute (.Name x px) f apos] e pos) (aFSet i f α) := by
  obtain ⟨t, h1, h2⟩ := he.ex
  refine ⟨_, ps_fld (pe_var hN hv hd hcd) h1 hs, fun B F0 M T env σ H F R0 A D l p => h2 B F0 M T env σ H F R0 _ p _ fun v d H1 F1 s1 d1 p1 => ?_⟩
  obtain ⟨C, a, dx, fs, p1, one, hn, hl, hf, p2⟩ := p1
  obtain ⟨⟨u, g1, g2⟩, g3⟩ := (R0.step s1).ln i _ p1
  obtain ⟨rfl, q2, q3, q4, gs, q5, q6⟩ := g2
  have hlen : gs.length < 1000 := by
    have := congrArg List.length q6.names
    rw [List.length_map, List.length_map] at this
    omega
  exact ⟨_, g1, a, C, dx, gs, rfl, q5, q2.cls, q2.no hf, hlen, l.nx T _ σ _ F1 (ob_wr R0 s1 p1 one q5 hn (d := .da d) d1 (fun x hx => by cases hx) .nil) p2⟩
/-- self.f = [], a new list -/
def aFNew (i : Nat) (f : Str) (β : AOx) : ASx := fun A env => β env fun ds => ds = [] ∧ ∃ C a dx fs, env[i]? = some (.ln (obI C a dx fs)) ∧ noLn env i = true ∧ f ∉ fs.map (·.1) ∧ fs.length < 4 ∧ DkF f ∧ ∀ l, A.nx (env.set i (.ln (obI C a dx (fs ++ [(f, .ls l [])]))))
theorem js_fnew (i : Nat) (he : JO X e β) (hN : X.N[i]? = some x := by rfl) (hv : Vis X.env.scope x := by first | exact Or.inl rfl | exact Or.inr (Or.inl rfl) | exact Or.inr (Or.inr rfl)) (hd : (x == ("__debug__" : Str)) = false := by decide)
    (hcd : (x == ("__classdict__" : Str)) = false := by decide) (hs : swapsWith e (some (.Attribute (.Name x px) f apos)) pos.line X.env = pure false := by rfl) : JS X (.Assign [.Attribute (.Name x px) f apos] e pos) (aFNew i f β) := by
  obtain ⟨t, h1, h2⟩ := he.ex
  refine ⟨_, ps_fld (pe_var hN hv hd hcd) h1 hs, fun B F0 M T env σ H F R0 A D l p => h2 B F0 M T env σ H F R0 _ p _ fun r vs ds H1 F1 s1 e1 e2 e3 d1 p1 => ?_⟩
  obtain ⟨rfl, C, a, dx, fs, p1, one, hn, hl, hf, p2⟩ := p1
  cases d1
  obtain ⟨⟨u, g1, g2⟩, g3⟩ := (R0.step s1).ln i _ p1
  obtain ⟨rfl, q2, q3, q4, gs, q5, q6⟩ := g2
  have hlen : gs.length < 1000 := by
    have := congrArg List.length q6.names
    rw [List.length_map, List.length_map] at this
    omega
  refine ⟨_, g1, a, C, dx, gs, rfl, q5, q2.cls, q2.no hf, hlen, l.nx T _ σ _ F1 (ob_wr R0 s1 p1 one q5 hn (d := .ls r []) ⟨rfl, e1⟩ (fun x hx => ?_) (by simp [Fd.adr])) (p2 r)⟩
  have : x = r := by simpa [Fd.adr] using hx
  subst this
  exact ⟨e3, ⟨_, e1⟩, e2⟩
end
/-- made, it is a desk -/
theorem ob_dk {K : KW} {H F : Hp} {v : V} {C a dx l1 l2 : Addr} {room pause : Int} {rule : Rule} (h : (obI C a dx [("_crossing", .da (crD room pause)), ("_rule", .da rule.d), ("_comings", .ls l1 []), ("_undone", .ls l2 [])]).at_ K H F v) : [a, dx, l1, l2].Nodup ∧ (dkT C a dx l1 l2 ⟨room, pause, rule, [], []⟩).at_ K H F v := by
  obtain ⟨q1, q2, q3, q4, gs, q5, q6⟩ := h
  refine ⟨q3, q1, q2, q3, q4, ?_⟩
  cases q6 with | @cons g1 _ _ _ a1 q6 =>
  cases q6 with | @cons g2 _ _ _ a2 q6 =>
  cases q6 with | @cons g3 _ _ _ a3 q6 =>
  cases q6 with | @cons g4 _ _ _ a4 q6 =>
  cases q6
  obtain ⟨n1, v1⟩ := g1
  obtain ⟨n2, v2⟩ := g2
  obtain ⟨n3, v3⟩ := g3
  obtain ⟨n4, v4⟩ := g4
  obtain ⟨rfl, a1⟩ := a1
  obtain ⟨rfl, a2⟩ := a2
  obtain ⟨rfl, rfl, a3⟩ := a3
  obtain ⟨rfl, rfl, a4⟩ := a4
  exact ⟨a3, a4, v1, v2, q5, a1, a2⟩
def WM_init : WtM := fun as P => ∃ C a dx room pause rule, as = [.ln (obI C a dx []), .va (crD room pause), .va (Rule.d rule)] ∧ CrOk room pause ∧ rule.ok ∧ ∀ l1 l2, P .none (obI C a dx [("_crossing", .da (crD room pause)), ("_rule", .da rule.d), ("_comings", .ls l1 []), ("_undone", .ls l2 [])])
end Lr
namespace Ab
open PySem PySem.Spec PyProof.Rows L2
end Ab
namespace Ab
open PySem PySem.Spec PyProof.Rows L2
section
variable {X : Cx} {pos p apos : Pos} {x m : Str} {k : Nat}
theorem j_methR (i : Nat) {C : Addr} {W : WtL} {pl : Sem Bool} (hC : Cls X.K C) (c : ClR X.prog X.w X.K X.mg X.base k C m 1 W) (hr : Room k X.A)
    (hN : X.N[i]? = some x := by rfl) (hv : Vis X.env.scope x := by first | exact Or.inl rfl | exact Or.inr (Or.inl rfl) | exact Or.inr (Or.inr rfl)) (hd : (x == ("__debug__" : Str)) = false := by decide)
    (hcd : (x == ("__classdict__" : Str)) = false := by decide)
    (he : eval (.Call (.Attribute (.Name x p) m apos) [] [] pos) X.env = (do
      let ov ← eval (.Name x p) X.env
      standAt apos.atName
      let y ← holding [ov] (getMethod ov m pl)
      match y with
      | (f, first) => callWith pos f first (backTo pos (starEach [] X.env)) (backToKw pos (keywordEach [] X.env))) := by rfl) : JE X (.Call (.Attribute (.Name x p) m apos) [] [] pos) (aMeth0 i C m W) := by
  obtain ⟨f, fd, ps, hF, hM, hB⟩ := c.ex
  exact j_meth0 i hC hM hF hr hB hN hv hd hcd he
end
end Ab
namespace Lr
open PySem PySem.Spec PyProof.Rows Ab L2
/-- tick: plays a tick and tells its light -/
def lastD (ds : List DD) : DD := match ds.getLast? with
  | some d => d
  | none => .none
def WM_tick (C : Addr) : WtM := fun as P => ∃ a dx l1 l2 c e, as = [.ln (dkT C a dx l1 l2 c), .va (.int e)] ∧ [a, dx, l1, l2].Nodup ∧ DkOk c ∧ ComOk e ∧ c.cs.length < 40 ∧ P (lastD ((lights c.room c.pause c.rule (c.cs ++ [e])).map Lt.d)) (dkT C a dx l1 l2 { c with cs := c.cs ++ [e], un := [] })
end Lr
namespace Lr
open PySem PySem.Spec PyProof.Rows Ab L2
theorem WO_lights_of {as : AE} {P : DD → Prop} (h : W_lights as P) : WO_lights as fun ds => P (.list ds) := by
  obtain ⟨room, pause, rule, cs, e, h1, h2, h3, q⟩ := h
  exact ⟨_, _, _, _, e, h1, h2, h3, by rw [lights, List.map_map]; exact q⟩
end Lr
namespace Lr
open PySem PySem.Spec PyProof.Rows Ab L2
theorem ob_to {C a dx : Addr} {fs : List (Str × Fd)} : LnTo (obI C a dx []) (obI C a dx fs) := ⟨⟨rfl, rfl⟩, fun x hx => by
  have hx : x = a ∨ x = dx := by simpa [obI, obA] using hx
  show x ∈ obA a dx fs
  rcases hx with rfl | rfl <;> simp [obA], fun {K H F H' F' v v'} h h' => by rw [h.1, h'.1]⟩
end Lr
namespace Lr
open PySem PySem.Spec PyProof.Rows Ab L2
theorem key_lts : ∀ ls : List Lt, keyDs (ls.map Lt.d) = true
  | [] => rfl
  | l :: ls => by
    rw [List.map_cons, keyDs, key_lts ls]
    cases l <;> rfl
theorem key_ints : ∀ ls : List Int, keyDs (ls.map PyData.int) = true
  | [] => rfl
  | l :: ls => by rw [List.map_cons, keyDs, key_ints ls]; rfl
theorem last_map {α : Type} {f : α → DD} {l : List α} (h : l ≠ []) : ∃ xs x, l.map f = xs ++ [x] := by
  have hl : l.map f ≠ [] := fun y => h (by simpa using y)
  exact ⟨_, _, (List.dropLast_concat_getLast hl).symm⟩
end Lr
namespace Lr
open PySem PySem.Spec PyProof.Rows Ab L2
section
variable {C a dx l1 l2 : Addr} {c : Dk} {env : AE} {i j : Nat} {P : DD → Prop}
theorem m_comings (h : env[i]? = some (.ln (dkT C a dx l1 l2 c))) (nd : [a, dx, l1, l2].Nodup) (ok : DkOk c) (p : P (coD c.cs)) : aMeth0 i C "comings" WD_comings env P :=
  ⟨_, _, _, h, dk_rd ⟨by decide +kernel, by decide +kernel, by decide +kernel, by decide +kernel⟩ nd, C, a, dx, l1, l2, c, rfl, ok, key_ints _, p⟩
theorem m_lights (h : env[i]? = some (.ln (dkT C a dx l1 l2 c))) (nd : [a, dx, l1, l2].Nodup) (ok : DkOk c) (p : P (.list ((lights c.room c.pause c.rule c.cs).map Lt.d))) : aMeth0 i C "lights" WD_lights env P :=
  ⟨_, _, _, h, dk_rd ⟨by decide +kernel, by decide +kernel, by decide +kernel, by decide +kernel⟩ nd, C, a, dx, l1, l2, c, rfl, ok, key_lts _, p⟩
def Dk.play (c : Dk) (e : Int) : Dk := { c with cs := c.cs ++ [e], un := [] }
theorem play_ok {e : Int} (ok : DkOk c) (he : ComOk e) (hl : c.cs.length < 40) : DkOk (c.play e) := by
  refine ⟨ok.1, ok.2.1, ?_, fun z hz => ?_⟩
  · show (c.cs ++ [e]).length ≤ 40
    rw [List.length_append, List.length_singleton]; omega
  · rcases List.mem_append.mp hz with hz | hz
    · exact ok.2.2.2 z hz
    · rw [List.mem_singleton.mp hz]; exact he
theorem m_tick {e : Int} {Q : DD → AE → Prop} (h : env[i]? = some (.ln (dkT C a dx l1 l2 c))) (one : noLn env i = true) (nd : [a, dx, l1, l2].Nodup) (ok : DkOk c) (hj : env[j]? = some (.va (.int e))) (he : ComOk e) (hl : c.cs.length < 40)
    (p : Q (lastD ((lights c.room c.pause c.rule (c.cs ++ [e])).map Lt.d)) (env.set i (.ln (dkT C a dx l1 l2 (c.play e))))) : aMethM i C "tick" 2 (WM_tick C) (gConsA (aV j) gNilA) env Q :=
  ⟨_, h, one, rfl, dk_ins ⟨by decide +kernel, by decide +kernel, by decide +kernel, by decide +kernel⟩, _, hj, rfl, a, dx, l1, l2, c, e, rfl, nd, ok, he, hl, p⟩
end
end Lr
namespace Ab
open PySem PySem.Spec PyProof.Rows L2
end Ab
namespace Ab
open PySem PySem.Spec PyProof.Rows L2
end Ab
namespace Ab
open PySem PySem.Spec PyProof.Rows L2
end Ab
namespace Ab
open PySem PySem.Spec PyProof.Rows L2
end Ab
namespace Ab
open PySem PySem.Spec PyProof.Rows L2
end Ab
namespace Lr
open PySem PySem.Spec PyProof.Rows Ab L2
/-- C is the j-th of the classes Cs, all of them below CL -/
structure IsCl (K : PySem.W.Frag) (CL : Addr) (Cs : List Addr) (C : Addr) (j : Nat) : Prop where
  exc : ExcC K C
  lt : j < 13
  exm : PySem.W.exmOne K (.ref C) (.ref CL) = some true
  ve : PySem.W.kitOne K (.ref C) (.type "ValueError") = some true
  is : Cs.map (fun D => PySem.W.kitOne K (.ref C) (.ref D)) = (List.range 13).map fun i => some (decide (i = j))
theorem IsCl.at {K : PySem.W.Frag} {CL : Addr} {Cs : List Addr} {C : Addr} {j : Nat} (h : IsCl K CL Cs C j) (i : Nat) (D : Addr) (e : Cs[i]? = some D) : PySem.W.kitOne K (.ref C) (.ref D) = some (decide (i = j)) := by
  have z := congrArg (fun l => l[i]?) h.is
  simp only [List.getElem?_map, e, Option.map_some] at z
  by_cases q : i < 13
  · rw [List.getElem?_range q] at z
    simpa using z
  · rw [List.getElem?_eq_none (by rw [List.length_range]; omega)] at z
    cases z
theorem kit_own {K : PySem.W.Frag} {C D : Addr} {b : Bool} (hd : PySem.W.hasDictIn K D = true) (ty : PySem.W.typeIn K (.ref D) = some (.type "type")) (su : PySem.W.subIn K (.ref C) (.ref D) = some b) (ne : b = false → (Value.ref C == Value.ref D) = false) : PySem.W.kitOne K (.ref C) (.ref D) = some b := by
  unfold PySem.W.kitOne
  by_cases q : (Value.ref C == Value.ref D) = true
  · rw [if_pos q]
    cases b with
    | true => rfl
    | false => rw [ne rfl] at q; cases q
  · rw [if_neg q]
    have hc : (PySem.W.clsIn K D).isSome = true := by
      unfold PySem.W.hasDictIn at hd
      cases z : PySem.W.clsIn K D with
      | none => rw [z] at hd; cases hd
      | some _ => rfl
    show (if ((PySem.W.clsIn K D).isSome && PySem.W.typeIn K (.ref D) == some (.type "type")) = true then PySem.W.subIn K (.ref C) (.ref D) else none) = _
    rw [hc, ty, if_pos (by rfl)]
    exact su
end Lr
namespace Lr
open PySem PySem.Spec PyProof.Rows Ab L2
structure OkC (K : PySem.W.Frag) (CL : Addr) (Cs : List Addr) (C : Addr) : Prop where
  ex : ∃ j, IsCl K CL Cs C j
theorem OkC.exc {K : PySem.W.Frag} {CL : Addr} {Cs : List Addr} {C : Addr} (h : OkC K CL Cs C) : ExcC K C := h.ex.elim fun _ h => h.exc
theorem OkC.exm {K : PySem.W.Frag} {CL : Addr} {Cs : List Addr} {C : Addr} (h : OkC K CL Cs C) : PySem.W.exmOne K (.ref C) (.ref CL) = some true := h.ex.elim fun _ h => h.exm
end Lr
namespace Lr
open PySem Ab
structure Lim where
  a : Int
  r : Int
  w : Int
def Lim.d (l : Lim) : DD := .tuple [.int l.a, .int l.r, .int l.w]
def cmpd : Rule → Lim
  | .gap i m => ⟨m, i, 0⟩
  | .due n => ⟨0, 0, n⟩
  | .asked n => ⟨n, 0, 0⟩
  | .clock a b => ⟨max a b, 0, 0⟩
  | .empty n => ⟨n, 0, 0⟩
  | .longer n => ⟨n, 0, 0⟩
def trim (l : Lim) (s : Sta) : Sta := { s with age := min s.age l.a, rest := min s.rest l.r, wait := min s.wait l.w }
def stp (room pause : Int) (l : Lim) (rule : Rule) (s : Sta) (c : Int) : Sta := trim l (tick room pause rule s c).s
def lit (room pause : Int) (rule : Rule) (s : Sta) (c : Int) : Lt := (tick room pause rule s c).light
def W_ck_kind : Wt := fun as P => ∃ k : Int, as = [.va (.int k)] ∧ ComOk k ∧ P .none
theorem W_ck_kind_i {k : Int} {P : DD → Prop} (hk : ComOk k) : W_ck_kind [.va (.int k)] P ↔ P .none := by
  constructor
  · rintro ⟨k', e, _, q⟩; exact q
  · intro q; exact ⟨k, rfl, hk, q⟩
instance (c : Int) : Decidable (ComOk c) := inferInstanceAs (Decidable (0 ≤ c ∧ c ≤ 3))
end Lr
namespace Lr
open PySem Ab
abbrev Lay := List (Sta × List Int)
structure Tr where
  s : Sta
  row : List Int
  c : Int
def Tr.r (t : Tr) : List Int := t.row ++ [t.c]
end Lr
namespace Lr
open PySem Ab
section
variable {α : Type}
def look (kvs : List (Sta × α)) (t : Sta) : Option α := (kvs.find? fun p => decide (p.1 = t)).map (·.2)
def putS (kvs : List (Sta × α)) (t : Sta) (v : α) : List (Sta × α) := if (look kvs t).isSome = true then kvs.map (fun p => if p.1 = t then (p.1, v) else p) else kvs ++ [(t, v)]
theorem look_none {kvs : List (Sta × α)} {t : Sta} : look kvs t = none ↔ t ∉ kvs.map (·.1) := by
  unfold look
  rw [Option.map_eq_none_iff, List.find?_eq_none]
  constructor
  · intro h m
    obtain ⟨p, hp, rfl⟩ := List.mem_map.mp m
    exact h p hp (decide_eq_true rfl)
  · intro h p hp e
    exact h (List.mem_map.mpr ⟨p, hp, of_decide_eq_true e⟩)
end
def tickB (room pause : Int) (ch : Bool) (s : Sta) (c : Int) : Res :=
  let a1 := min room (s.a + bit0 c)
  let b1 := min room (s.b + bit1 c)
  let lost := (s.a + bit0 c) + (s.b + bit1 c) - (a1 + b1)
  let road := if ch then 1 - s.road else s.road
  let left0 := if ch then pause + 1 else s.left
  let age := if ch then 0 else s.age
  let rest := if ch then 0 else s.rest
  let wait := if ch then 0 else s.wait
  let left := max 0 (left0 - 1)
  let light := if left = 0 then Lt.r road else Lt.dark
  let passed := if left = 0 ∧ ln road a1 b1 ≠ 0 then 1 else 0
  let a2 := if left = 0 ∧ road = 0 then a1 - passed else a1
  let b2 := if left = 0 ∧ road ≠ 0 then b1 - passed else b1
  let age' := if left = 0 then age + 1 else age
  let rest' := if left = 0 then (if passed > 0 then 0 else rest + 1) else rest
  let wait' := if ln (1 - road) a2 b2 > 0 then wait + 1 else 0
  ⟨⟨road, left, age', rest', wait', a2, b2⟩, light, passed, lost⟩
def chg (room : Int) (rule : Rule) (s : Sta) (c : Int) : Bool := decide (s.left = 0) && changes rule s.road s.age s.rest s.wait (min room (s.a + bit0 c)) (min room (s.b + bit1 c))
theorem tick_B (room pause : Int) (rule : Rule) (s : Sta) (c : Int) : tick room pause rule s c = tickB room pause (chg room rule s c) s c := rfl
def Box (s : Sta) : Prop := (s.road = 0 ∨ s.road = 1) ∧ (0 ≤ s.left ∧ s.left ≤ 3) ∧ (0 ≤ s.age ∧ s.age ≤ 4) ∧ (0 ≤ s.rest ∧ s.rest ≤ 4) ∧ (0 ≤ s.wait ∧ s.wait ≤ 4) ∧ (0 ≤ s.a ∧ s.a ≤ 3) ∧ 0 ≤ s.b ∧ s.b ≤ 3
def LimOk (l : Lim) : Prop := (0 ≤ l.a ∧ l.a ≤ 4) ∧ (0 ≤ l.r ∧ l.r ≤ 4) ∧ 0 ≤ l.w ∧ l.w ≤ 4
theorem cmpd_ok {r : Rule} (h : r.ok) : LimOk (cmpd r) := by
  cases r <;> simp only [Rule.ok, N4, cmpd, LimOk] at * <;> omega
def code (s : Sta) : Nat := ((((((s.road * 4 + s.left) * 5 + s.age) * 5 + s.rest) * 5 + s.wait) * 4 + s.a) * 4 + s.b).toNat
theorem code_lt {s : Sta} (h : Box s) : code s < 16000 := by
  obtain ⟨h1, h2, h3, h4, h5, h6, h7⟩ := h
  unfold code
  rcases h1 with e | e <;> rw [e] <;> omega
theorem rad4 {x y a b : Int} (h : x * 4 + a = y * 4 + b) (h1 : 0 ≤ a ∧ a ≤ 3) (h2 : 0 ≤ b ∧ b ≤ 3) : x = y ∧ a = b := by omega
theorem rad5 {x y a b : Int} (h : x * 5 + a = y * 5 + b) (h1 : 0 ≤ a ∧ a ≤ 4) (h2 : 0 ≤ b ∧ b ≤ 4) : x = y ∧ a = b := by omega
theorem code_inj {s t : Sta} (h : Box s) (g : Box t) (e : code s = code t) : s = t := by
  obtain ⟨h1, h2, h3, h4, h5, h6, h7⟩ := h
  obtain ⟨g1, g2, g3, g4, g5, g6, g7⟩ := g
  cases s; cases t
  unfold code at e
  simp only at *
  have e' : ∀ {x y : Int}, 0 ≤ x → 0 ≤ y → x.toNat = y.toNat → x = y := fun h1 h2 e => by omega
  have p := e' (by rcases h1 with z | z <;> rw [z] <;> omega) (by rcases g1 with z | z <;> rw [z] <;> omega) e
  obtain ⟨p, q1⟩ := rad4 p h7 g7
  obtain ⟨p, q2⟩ := rad4 p h6 g6
  obtain ⟨p, q3⟩ := rad5 p h5 g5
  obtain ⟨p, q4⟩ := rad5 p h4 g4
  obtain ⟨p, q5⟩ := rad5 p h3 g3
  obtain ⟨p, q6⟩ := rad4 p h2 g2
  rw [p, q1, q2, q3, q4, q5, q6]
theorem nodup_len {α : Type} [DecidableEq α] : ∀ (xs ys : List α), xs.Nodup → (∀ x ∈ xs, x ∈ ys) → xs.length ≤ ys.length
  | [], ys, _, _ => Nat.zero_le _
  | x :: xs, ys, hn, hs => by
    rw [List.nodup_cons] at hn
    have hx := hs x List.mem_cons_self
    have ih := nodup_len xs (ys.erase x) hn.2 fun y hy => (List.mem_erase_of_ne (fun z : y = x => hn.1 (by rw [← z]; exact hy))).mpr (hs y (List.mem_cons_of_mem _ hy))
    rw [List.length_erase_of_mem hx] at ih
    have : 0 < ys.length := List.length_pos_of_mem hx
    rw [List.length_cons]; omega
theorem box_len {S : List Sta} (hn : S.Nodup) (hb : ∀ s ∈ S, Box s) : S.length ≤ 16000 := by
  have h : (S.map code).length ≤ (List.range 16000).length := nodup_len _ _ (by
    refine List.pairwise_map.mpr (hn.imp_of_mem fun {a b} ha hb' hne e => hne (code_inj (hb a ha) (hb b hb') e))) fun x hx => by
      obtain ⟨s, hs, rfl⟩ := List.mem_map.mp hx
      exact List.mem_range.mpr (code_lt (hb s hs))
  simpa using h
theorem ite_nn {p : Prop} [Decidable p] {x y : Int} (hx : 0 ≤ x) (hy : 0 ≤ y) : 0 ≤ (if p then x else y) := by
  split <;> assumption
theorem min_in {v l : Int} (h : 0 ≤ v) (g : 0 ≤ l ∧ l ≤ 4) : 0 ≤ min v l ∧ min v l ≤ 4 := by omega
theorem nn1 {x : Int} (h : 0 ≤ x) : 0 ≤ x + 1 := by omega
theorem box_stp {room pause : Int} {l : Lim} {rule : Rule} {s : Sta} {c : Int} (hc : CrOk room pause) (hl : LimOk l) (hs : StaOk room s) (hb : Box s) (hk : ComOk c) : StaOk room (stp room pause l rule s c) ∧ Box (stp room pause l rule s c) := by
  have ok := tick_ok (rule := rule) hc hs hk
  refine ⟨ok, ok.1, ?_, ?_, ?_, ?_, ?_⟩
  · obtain ⟨_, b2, _⟩ := hb
    obtain ⟨_, c2⟩ := hc
    show 0 ≤ (tick room pause rule s c).s.left ∧ (tick room pause rule s c).s.left ≤ 3
    rw [tick_B]
    simp only [tickB]
    split <;> omega
  · obtain ⟨_, _, b3, _⟩ := hb
    exact min_in (ite_nn (nn1 (ite_nn (Int.le_refl _) b3.1)) (ite_nn (Int.le_refl _) b3.1)) hl.1
  · obtain ⟨_, _, _, b4, _⟩ := hb
    exact min_in (ite_nn (ite_nn (Int.le_refl _) (nn1 (ite_nn (Int.le_refl _) b4.1))) (ite_nn (Int.le_refl _) b4.1)) hl.2.1
  · obtain ⟨_, _, _, _, b5, _⟩ := hb
    exact min_in (ite_nn (nn1 (ite_nn (Int.le_refl _) b5.1)) (Int.le_refl _)) hl.2.2
  · obtain ⟨_, _, o3, o4⟩ := ok
    obtain ⟨c1, _⟩ := hc
    refine ⟨⟨o3.1, ?_⟩, o4.1, ?_⟩
    · show (tick room pause rule s c).s.a ≤ 3
      omega
    · show (tick room pause rule s c).s.b ≤ 3
      omega
end Lr
namespace Lr
open PySem Ab
instance (n : Int) : Decidable (N4 n) := inferInstanceAs (Decidable (1 ≤ n ∧ n ≤ 4))
instance : DecidablePred Rule.ok := fun r => by
  cases r <;> unfold Rule.ok <;> infer_instance
theorem Rule.sh (r : Rule) : Sh 1 r.d := by
  cases r <;> exact Sh.tup (by repeat (first | exact Sh.nil | refine Sh.cons (by first | exact Sh.int | exact Sh.str) ?_))
theorem rule_eqv (r s : Rule) : PyData.eqv r.d s.d = decide (r = s) := by
  by_cases e : r = s
  · subst e
    rw [decide_eq_true rfl]
    exact eqv_same r.sh
  · rw [decide_eq_false e]
    cases r <;> cases s <;> simp only [Rule.d, PyData.eqv, PyData.eqvAll, Bool.and_true, Bool.and_false, Bool.false_and] <;>
      first
        | (show (_ == _ && _) = false; rw [show ∀ a b : Str, (a == b) = decide (a = b) from fun a b => Bool.beq_eq_decide_eq a b, decide_eq_false (by decide +kernel)]; rfl)
        | (simp only [Rule.asked.injEq, Rule.clock.injEq, Rule.due.injEq, Rule.empty.injEq, Rule.gap.injEq, Rule.longer.injEq, not_and] at e; simp; first | exact e | (intro h; exact e h))
end Lr
namespace Lr
open PySem PySem.Spec PyProof.Rows Ab L2
structure OkP (K : PySem.W.Frag) (CL CP C : Addr) : Prop where
  exc : ExcC K C
  exm : PySem.W.exmOne K (.ref C) (.ref CL) = some true
  is : PySem.W.kitOne K (.ref C) (.ref CP) = some true
end Lr
namespace Lr
open PySem Ab
def StS (room : Int) (S : List Sta) (Fo : Lay) : Prop := S.Nodup ∧ (∀ s ∈ S, StaOk room s ∧ Box s) ∧ (∀ q ∈ Fo, q.1 ∈ S) ∧ Fo.length ≤ S.length
theorem StS.len {room : Int} {S : List Sta} {Fo : Lay} (h : StS room S Fo) : S.length ≤ 16000 := box_len h.1 fun s hs => (h.2.1 s hs).2
theorem StS.add {room : Int} {S : List Sta} {Fo : Lay} (h : StS room S Fo) {t : Sta} (ht : t ∉ S) (ok : StaOk room t ∧ Box t) (r : List Int) : StS room (S ++ [t]) (Fo ++ [(t, r)]) := by
  obtain ⟨h1, h2, h3, h4⟩ := h
  refine ⟨?_, fun s hs => ?_, fun q hq => ?_, by simp; exact h4⟩
  · rw [List.nodup_append]
    exact ⟨h1, by simp, fun a ha b hb => by rw [List.mem_singleton.mp hb]; exact fun z => ht (z ▸ ha)⟩
  · rcases List.mem_append.mp hs with hs | hs
    · exact h2 s hs
    · rw [List.mem_singleton.mp hs]; exact ok
  · rcases List.mem_append.mp hq with hq | hq
    · exact List.mem_append_left _ (h3 q hq)
    · rw [List.mem_singleton.mp hq]; simp
end Lr
namespace Ab
open PySem PySem.Spec PyProof.Rows L2
end Ab
namespace Lr
open PySem Ab
def rle : List Int → List Int → Bool
  | [], _ => true
  | _ :: _, [] => false
  | a :: as, b :: bs => decide (a < b) || (decide (a = b) && rle as bs)
theorem rle_refl : ∀ a, rle a a = true
  | [] => rfl
  | a :: as => by rw [rle, rle_refl as]; simp
theorem rle_trans : ∀ {a b c}, rle a b = true → rle b c = true → rle a c = true
  | [], _, _, _, _ => rfl
  | _ :: _, [], _, h, _ => by cases h
  | _ :: _, _ :: _, [], _, h => by cases h
  | a :: as, b :: bs, c :: cs, h, g => by
    simp only [rle, Bool.or_eq_true, Bool.and_eq_true, decide_eq_true_eq] at h g ⊢
    rcases h with h | ⟨h, h'⟩
    · rcases g with g | ⟨g, g'⟩
      · left; omega
      · left; omega
    · rcases g with g | ⟨g, g'⟩
      · left; omega
      · right; exact ⟨by omega, rle_trans h' g'⟩
theorem rle_total : ∀ a b, rle a b = true ∨ rle b a = true
  | [], _ => .inl rfl
  | _ :: _, [] => .inr rfl
  | a :: as, b :: bs => by
    simp only [rle, Bool.or_eq_true, Bool.and_eq_true, decide_eq_true_eq]
    rcases Int.lt_trichotomy a b with h | h | h
    · exact .inl (.inl h)
    · rcases rle_total as bs with g | g
      · exact .inl (.inr ⟨h, g⟩)
      · exact .inr (.inr ⟨h.symm, g⟩)
    · exact .inr (.inl h)
theorem rle_app (c : Int) : ∀ {a b : List Int}, a.length = b.length → rle a b = true → rle (a ++ [c]) (b ++ [c]) = true
  | [], [], _, _ => rle_refl _
  | [], _ :: _, h, _ => by cases h
  | _ :: _, [], h, _ => by cases h
  | a :: as, b :: bs, h, g => by
    simp only [List.cons_append, rle, Bool.or_eq_true, Bool.and_eq_true, decide_eq_true_eq] at g ⊢
    rcases g with g | ⟨g, g'⟩
    · exact .inl g
    · exact .inr ⟨g, rle_app c (by simpa using h) g'⟩
section
variable (nx : Sta → Int → Sta) (lt : Sta → Int → Lt)
def tl : Sta → List Int → List Lt
  | _, [] => []
  | s, c :: cs => lt s c :: tl (nx s c) cs
def fin : Sta → List Int → Sta
  | s, [] => s
  | s, c :: cs => fin (nx s c) cs
theorem tl_len : ∀ (s : Sta) (cs : List Int), (tl nx lt s cs).length = cs.length
  | _, [] => rfl
  | s, c :: cs => by rw [tl, List.length_cons, tl_len, List.length_cons]
theorem tl_app (s : Sta) (cs : List Int) (c : Int) : tl nx lt s (cs ++ [c]) = tl nx lt s cs ++ [lt (fin nx s cs) c] := by
  induction cs generalizing s with
  | nil => rfl
  | cons d cs ih => rw [List.cons_append, tl, ih, tl]; rfl
theorem fin_app (s : Sta) (cs : List Int) (c : Int) : fin nx s (cs ++ [c]) = nx (fin nx s cs) c := by
  induction cs generalizing s with
  | nil => rfl
  | cons d cs ih => rw [List.cons_append, fin, ih]; rfl
def cs4 : List Int := [0, 1, 2, 3]
theorem cs4_ok {c : Int} : c ∈ cs4 ↔ ComOk c := by
  unfold cs4 ComOk
  simp only [List.mem_cons, List.not_mem_nil, or_false]
  omega
def mv (s : Sta) (l : Lt) : List Int := cs4.filter fun c => decide (lt s c = l)
theorem mv_mem {s : Sta} {l : Lt} {c : Int} : c ∈ mv lt s l ↔ ComOk c ∧ lt s c = l := by
  unfold mv
  rw [List.mem_filter, cs4_ok, decide_eq_true_eq]
end
theorem look_cons {α : Type} (p : Sta × α) (F : List (Sta × α)) (t : Sta) : look (p :: F) t = if p.1 = t then some p.2 else look F t := by
  unfold look
  rw [List.find?_cons]
  by_cases e : p.1 = t
  · rw [decide_eq_true e, if_pos e]; rfl
  · rw [decide_eq_false e, if_neg e]
theorem put_keys {α : Type} {F : List (Sta × α)} {t : Sta} {v : α} (h : (F.map (·.1)).Nodup) : ((putS F t v).map (·.1)).Nodup ∧ ∀ s, s ∈ (putS F t v).map (·.1) → s = t ∨ s ∈ F.map (·.1) := by
  unfold putS
  split
  · have e : (F.map fun p => if p.1 = t then (p.1, v) else p).map (·.1) = F.map (·.1) := by
      rw [List.map_map]
      refine List.map_congr_left fun p _ => ?_
      show (if p.1 = t then (p.1, v) else p).1 = p.1
      split <;> rfl
    rw [e]
    exact ⟨h, fun s hs => .inr hs⟩
  · rename_i z
    have z : t ∉ F.map (·.1) := look_none.mp (by simpa using z)
    rw [List.map_append]
    refine ⟨List.nodup_append.mpr ⟨h, by simp, fun a ha b hb e => ?_⟩, fun s hs => ?_⟩
    · simp only [List.map_cons, List.map_nil, List.mem_singleton] at hb
      exact z (hb ▸ e ▸ ha)
    · rcases List.mem_append.mp hs with q | q
      · exact .inr q
      · simp only [List.map_cons, List.map_nil, List.mem_singleton] at q
        exact .inl q
def KOk {α : Type} (room : Int) (F : List (Sta × α)) : Prop := (F.map (·.1)).Nodup ∧ ∀ s ∈ F.map (·.1), StaOk room s ∧ Box s
theorem KOk.put {α : Type} {room : Int} {F : List (Sta × α)} {t : Sta} {v : α} (h : KOk room F) (ok : StaOk room t ∧ Box t) : KOk room (putS F t v) := by
  obtain ⟨a, b⟩ := put_keys (t := t) (v := v) h.1
  refine ⟨a, fun s hs => ?_⟩
  rcases b s hs with rfl | z
  · exact ok
  · exact h.2 s z
theorem KOk.len {α : Type} {room : Int} {F : List (Sta × α)} (h : KOk room F) : F.length ≤ 16000 := by
  have := box_len h.1 fun s hs => (h.2 s hs).2
  rwa [List.length_map] at this
def minR (a b : List Int) : List Int := if rle a b = true then a else b
theorem minR_l (a b : List Int) : rle (minR a b) a = true := by
  unfold minR
  split
  · exact rle_refl _
  · rename_i h
    exact (rle_total a b).resolve_left h
theorem minR_r (a b : List Int) : rle (minR a b) b = true := by
  unfold minR
  split
  · rename_i h; exact h
  · exact rle_refl _
theorem look_memR {α : Type} : ∀ {F : List (Sta × α)} {t : Sta} {v : α}, look F t = some v → (t, v) ∈ F
  | [], _, _, e => by cases e
  | p :: F, t, v, e => by
    rw [look_cons] at e
    by_cases q : p.1 = t
    · rw [if_pos q] at e
      cases e
      subst q
      exact List.mem_cons_self
    · rw [if_neg q] at e
      exact List.mem_cons_of_mem _ (look_memR e)
theorem mem_look {α : Type} : ∀ {F : List (Sta × α)} {t : Sta} {v : α}, (F.map (·.1)).Nodup → (t, v) ∈ F → look F t = some v
  | [], _, _, _, h => by cases h
  | p :: F, t, v, hn, h => by
    rw [List.map_cons, List.nodup_cons] at hn
    rw [look_cons]
    rcases List.mem_cons.mp h with e | h
    · cases e; rw [if_pos rfl]
    · rw [if_neg (fun q : p.1 = t => hn.1 (by rw [q]; exact List.mem_map.mpr ⟨_, h, rfl⟩))]
      exact mem_look hn.2 h
/-- what stands behind a put -/
theorem put_mem {α : Type} {F : List (Sta × α)} {t : Sta} {v : α} : ∀ {s : Sta} {w : α}, (s, w) ∈ putS F t v → (s = t ∧ w = v) ∨ (s, w) ∈ F := by
  intro s w h
  unfold putS at h
  split at h
  · obtain ⟨p, hp, e⟩ := List.mem_map.mp h
    by_cases q : p.1 = t
    · rw [if_pos q] at e
      cases e
      exact .inl ⟨q, rfl⟩
    · rw [if_neg q] at e
      exact .inr (e ▸ hp)
  · rcases List.mem_append.mp h with h | h
    · exact .inr h
    · cases List.mem_singleton.mp h
      exact .inl ⟨rfl, rfl⟩
theorem put_here {α : Type} {F : List (Sta × α)} {t : Sta} {v : α} : (t, v) ∈ putS F t v := by
  unfold putS
  split
  · rename_i h
    obtain ⟨w, hw⟩ := Option.isSome_iff_exists.mp h
    exact List.mem_map.mpr ⟨(t, w), look_memR hw, if_pos rfl⟩
  · exact List.mem_append_right _ (List.mem_singleton_self _)
theorem put_kept {α : Type} {F : List (Sta × α)} {t s : Sta} {v w : α} (h : (s, w) ∈ F) (n : s ≠ t) : (s, w) ∈ putS F t v := by
  unfold putS
  split
  · exact List.mem_map.mpr ⟨(s, w), h, if_neg n⟩
  · exact List.mem_append_left _ h
def CovR (F : Lay) (s : Sta) (r : List Int) : Prop := ∃ w, (s, w) ∈ F ∧ rle w r = true
theorem CovR.put {F : Lay} {s t : Sta} {r b : List Int} (hn : (F.map (·.1)).Nodup) (h : CovR F s r) : CovR (putS F t (minR ((look F t).getD b) b)) s r := by
  obtain ⟨w, h1, h2⟩ := h
  by_cases e : s = t
  · subst e
    rw [mem_look hn h1]
    exact ⟨_, put_here, rle_trans (minR_l _ _) h2⟩
  · exact ⟨w, put_kept h1 e, h2⟩
theorem CovR.here {F : Lay} {t : Sta} {b : List Int} : CovR (putS F t (minR ((look F t).getD b) b)) t b := ⟨_, put_here, minR_r _ _⟩
def nxT (room pause : Int) (rule : Rule) : Sta → Int → Sta := stp room pause (cmpd rule) rule
def Pth (room pause : Int) (rule : Rule) (ls : List Lt) (s : Sta) (row : List Int) : Prop :=
  (∀ c ∈ row, ComOk c) ∧ tl (nxT room pause rule) (lit room pause rule) sta0 row = ls ∧ fin (nxT room pause rule) sta0 row = s
theorem Pth.len {room pause : Int} {rule : Rule} {ls : List Lt} {s : Sta} {row : List Int} (h : Pth room pause rule ls s row) : row.length = ls.length := by rw [← h.2.1, tl_len]
theorem Pth.add {room pause : Int} {rule : Rule} {ls : List Lt} {s : Sta} {row : List Int} {l : Lt} {c : Int} (h : Pth room pause rule ls s row) (hc : c ∈ mv (lit room pause rule) s l) : Pth room pause rule (ls ++ [l]) (nxT room pause rule s c) (row ++ [c]) := by
  obtain ⟨h1, h2, h3⟩ := h
  obtain ⟨k1, k2⟩ := (mv_mem _).mp hc
  refine ⟨fun d hd => ?_, by rw [tl_app, h2, h3, k2], by rw [fin_app, h3]⟩
  rcases List.mem_append.mp hd with q | q
  · exact h1 d q
  · rw [List.mem_singleton.mp q]; exact k1
theorem Pth.split {room pause : Int} {rule : Rule} {ls : List Lt} {s : Sta} {row : List Int} {l : Lt} (h : Pth room pause rule (ls ++ [l]) s row) : ∃ r0 c t, row = r0 ++ [c] ∧ Pth room pause rule ls t r0 ∧ c ∈ mv (lit room pause rule) t l ∧ s = nxT room pause rule t c := by
  have hl := h.len
  rcases List.eq_nil_or_concat row with e | ⟨r0, c, e⟩
  · rw [e] at hl; simp at hl
  · rw [List.concat_eq_append] at e
    subst e
    obtain ⟨h1, h2, h3⟩ := h
    rw [tl_app] at h2
    rw [fin_app] at h3
    obtain ⟨e1, e2⟩ := List.append_inj' h2 rfl
    simp only [List.cons.injEq, and_true] at e2
    exact ⟨r0, c, _, rfl, ⟨fun d hd => h1 d (List.mem_append_left _ hd), e1, rfl⟩, (mv_mem _).mpr ⟨h1 c (List.mem_append_right _ (List.mem_singleton_self _)), e2⟩, h3.symm⟩
/-- a layer -/
structure LayI (room pause : Int) (rule : Rule) (ls : List Lt) (F : Lay) : Prop where
  ko : KOk room F
  pt : ∀ s row, (s, row) ∈ F → Pth room pause rule ls s row
  cv : ∀ s row, Pth room pause rule ls s row → CovR F s row
/-- a layer in the making: rem, rc still to come; cur the state under way -/
structure LayM (room pause : Int) (rule : Rule) (ls : List Lt) (l : Lt) (L F : Lay) (p : Sta × List Int → Int → Prop) : Prop where
  ko : KOk room F
  pt : ∀ s row, (s, row) ∈ F → Pth room pause rule (ls ++ [l]) s row
  cv : ∀ q ∈ L, ∀ c ∈ mv (lit room pause rule) q.1 l, p q c ∨ CovR F (nxT room pause rule q.1 c) (q.2 ++ [c])
theorem LayM.put {room pause : Int} {rule : Rule} {ls : List Lt} {l : Lt} {L F : Lay} {p p' : Sta × List Int → Int → Prop} {s : Sta} {row : List Int} {c : Int} (hc : CrOk room pause) (hr : rule.ok) (h : LayM room pause rule ls l L F p) (hs : StaOk room s ∧ Box s) (hp : Pth room pause rule ls s row) (hm : c ∈ mv (lit room pause rule) s l)
    (hp' : ∀ q d, p q d → (q = (s, row) ∧ d = c) ∨ p' q d) :
    LayM room pause rule ls l L (putS F (nxT room pause rule s c) (minR ((look F (nxT room pause rule s c)).getD (row ++ [c])) (row ++ [c]))) p' := by
  have hk := ((mv_mem _).mp hm).1
  refine ⟨h.ko.put (box_stp hc (cmpd_ok hr) hs.1 hs.2 hk), fun t w ht => ?_, fun q hq d hd => ?_⟩
  · rcases put_mem ht with ⟨rfl, rfl⟩ | ht
    · have own : Pth room pause rule (ls ++ [l]) (nxT room pause rule s c) (row ++ [c]) := hp.add hm
      cases e : look F (nxT room pause rule s c) with
      | none =>
        show Pth _ _ _ _ _ (minR (row ++ [c]) (row ++ [c]))
        unfold minR
        rw [if_pos (rle_refl _)]
        exact own
      | some w =>
        show Pth _ _ _ _ _ (minR w (row ++ [c]))
        unfold minR
        split
        · exact h.pt _ _ (look_memR e)
        · exact own
    · exact h.pt _ _ ht
  · rcases h.cv q hq d hd with z | z
    · rcases hp' q d z with ⟨rfl, rfl⟩ | z
      · exact .inr CovR.here
      · exact .inl z
    · exact .inr (z.put h.ko.1)
theorem LayM.done {room pause : Int} {rule : Rule} {ls : List Lt} {l : Lt} {L F : Lay} {p : Sta × List Int → Int → Prop} (hL : LayI room pause rule ls L) (h : LayM room pause rule ls l L F p) (hp : ∀ q ∈ L, ∀ c, ¬ p q c) : LayI room pause rule (ls ++ [l]) F := by
  refine ⟨h.ko, h.pt, fun s row hr => ?_⟩
  obtain ⟨r0, c, t, rfl, k1, k2, rfl⟩ := hr.split
  obtain ⟨w, w1, w2⟩ := hL.cv t r0 k1
  rcases h.cv (t, w) w1 c k2 with z | ⟨v, v1, v2⟩
  · exact absurd z (hp _ w1 c)
  · exact ⟨v, v1, rle_trans v2 (rle_app c (by rw [(hL.pt t w w1).len, k1.len]) w2)⟩
end Lr
namespace Lr
open PySem PySem.Spec PyProof.Rows Ab L2
def dkZ (C a dx l1 l2 : Addr) (c : Dk) : LnT where
  A := []
  own := false
  at_ := fun K H F v => v = .ref a ∧ DkCls K C ∧ ∃ vC vR, F a = some (.ins C dx (dkF vC vR l1 l2)) ∧ Rp K F vC (crD c.room c.pause) ∧ Rp K F vR c.rule.d ∧ Rp K F (.ref l1) (coD c.cs) ∧ Rp K F (.ref l2) (coD c.un)
  mono := fun {K H F H' F' v} h k s => by
    obtain ⟨h1, hc, vC, vR, h6, h7, h8, h9, h10⟩ := h
    exact ⟨h1, hc, vC, vR, s _ _ h6, Rp.sub s _ h7, Rp.sub s _ h8, Rp.sub s _ h9, Rp.sub s _ h10⟩
theorem dk_lend {C a dx l1 l2 : Addr} {c : Dk} : LendOk (dkT C a dx l1 l2 c) (dkZ C a dx l1 l2 c) := ⟨rfl, rfl, fun K H F v h hn => by
  obtain ⟨h1, hc, h2, h3, h4, h5, vC, vR, h6, h7, h8⟩ := h
  have sb : Sub F (lendL H F [a, dx, l1, l2]) := fun x o e => by
    unfold lendL
    by_cases q : x ∈ [a, dx, l1, l2]
    · rw [hn x q] at e; cases e
    · rw [if_neg q]; exact e
  have on : ∀ x ∈ [a, dx, l1, l2], lendL H F [a, dx, l1, l2] x = H x := fun x hx => by unfold lendL; rw [if_pos hx]
  exact ⟨h1, hc, vC, vR, (on a (by simp)).trans h6, Rp.sub sb _ h7, Rp.sub sb _ h8, .lst ((on l1 (by simp)).trans h4) (rp_ints _), .lst ((on l2 (by simp)).trans h5) (rp_ints _)⟩⟩
theorem dkZ_comings {C a dx l1 l2 : Addr} {c : Dk} : FldZ (dkZ C a dx l1 l2 c) "_comings" (coD c.cs) := fun K H F v sb h => by
  obtain ⟨h1, hc, vC, vR, h6, h7, h8, h9, h10⟩ := h
  exact ⟨a, C, dx, _, .ref l1, h1, sb _ _ h6, hc.cls, hc.f3, rfl, h9⟩
end Lr
namespace Lr
open PySem PySem.Spec PyProof.Rows Ab L2
section
variable {X : Cx} {e : Expr} {es : List Expr} {pos p cp px apos fpos : Pos} {x y f : Str} {k : Nat} {β : AOx}
def aMkN (C : Addr) (δ : AE → (AE → Prop) → Prop) : AE → (LnT → Prop) → Prop := fun env P => δ env fun as => ∃ room pause rule, as = [.va (crD room pause), .va (Rule.d rule)] ∧ CrOk room pause ∧ rule.ok ∧ ∀ a dx l1 l2, [a, dx, l1, l2].Nodup → P (dkT C a dx l1 l2 ⟨room, pause, rule, [], []⟩)
theorem jn_make {C : Addr} {δ : AE → (AE → Prop) → Prop} (hC : DkCls X.K C) (c : ClN X.prog X.w X.K X.mg X.base k y C 3 WM_init) (hr : Room (k + 1) X.A) (ha : JA X (e :: es) δ) (hg : Gl X y := by rfl) (hdb : (y == ("__debug__" : Str)) = false := by decide)
    (he : starEach (e :: es) X.env = (false, eval e X.env) :: starEach es X.env := by rfl) (hpl : (backTo cp (starEach es X.env)).any (·.1) = false := by rfl) : JN X (.Call (.Name y px) (e :: es) [] cp) (aMkN C δ) := by
  obtain ⟨t, g1, g2⟩ := ha.ex
  obtain ⟨f, fd, ps, hF, hM, hm, hB⟩ := c.ex
  refine ⟨_, pe_make hM hF hr hg hm hB .nil pass0 g1 hdb he hpl, fun B F0 M T env σ H F R0 P p Q q => ?_⟩
  refine g2 B F0 M T env σ H F R0 _ p _ fun vs as H1 F1 s1 pr p1 => ?_
  obtain ⟨room, pause, rule, rfl, hc, hr', p1⟩ := p1
  intro a dx ea ed ne
  have R1 := R0.step s1
  have b1 := R1.bs
  have s2 : Stp T H1 F1 (upd H1 dx (.own a)) F1 := Stp.al0 b1 ed
  have s3 : Stp T (upd H1 dx (.own a)) F1 (upd (upd H1 dx (.own a)) a (.ins C dx [])) F1 := Stp.al0 (s2.bs b1) (by rw [upd_ne (Ne.symm ne)]; exact ea)
  have s4 := s2.trans s3
  have noF : ∀ z, H1 z = none → F1 z = none := fun z hz => by
    cases q : F1 z with
    | none => rfl
    | some o => rw [b1.sub z o q] at hz; cases hz
  have noT : ∀ z, H1 z = none → ¬ T z := fun z hz t => by
    obtain ⟨o, y⟩ := Tws.has (b1.tw z t).2
    rw [hz] at y; cases y
  refine ⟨F1, T, obI C a dx [], .ref a, vs, _, fun d φ' => d = .none ∧ ∃ l1 l2, φ' = obI C a dx [("_crossing", .da (crD room pause)), ("_rule", .da rule.d), ("_comings", .ls l1 []), ("_undone", .ls l2 [])], by rw [List.append_nil], s4.bs b1, rfl, ⟨rfl, hC, by simp [obA, Ne.symm ne], by rw [upd_ne ne, upd_same], [], upd_same, .nil⟩, fun z hz => ?_, pr, rfl, ⟨C, a, dx, room, pause, rule, rfl, hc, hr', fun l1 l2 => ?_⟩, ?_⟩
  · have hz : z = a ∨ z = dx := by simpa [obI, obA] using hz
    rcases hz with rfl | rfl
    · exact ⟨⟨_, upd_same⟩, noF _ ea, noT _ ea⟩
    · exact ⟨⟨_, by rw [upd_ne ne, upd_same]⟩, noF _ ed, noT _ ed⟩
  · exact ⟨rfl, l1, l2, rfl⟩
  · rintro w d φ' H2 F2 to s at2 A2 rd ⟨rfl, l1, l2, rfl⟩
    cases rd
    refine ⟨rfl, ?_⟩
    obtain ⟨nd4, atd⟩ := ob_dk at2
    have s5 : Stp T H1 F1 H2 F2 := ⟨s.sub, s.ext, fun z o e => by
      rcases s.new z o e with q | q
      · exact .inl q
      · exact .inr (s4.dom q), fun z o e nt => s.keep z o (s4.keep z o e nt) nt (fun hz => (by
        have hz : z = a ∨ z = dx := by simpa [obI, obA] using hz
        rcases hz with q | q
        · rw [q, ea] at e; cases e
        · rw [q, ed] at e; cases e)), s.tc⟩
    refine q _ _ H2 F2 (s1.trans s5) atd rfl (fun z hz => ?_) (p1 a dx l1 l2 nd4)
    obtain ⟨y1, y2, y3⟩ := A2 z hz
    have hz1 : H1 z = none := by
      rcases y3 with y3 | y3
      · have hz : z = a ∨ z = dx := by simpa [obI, obA] using y3
        rcases hz with rfl | rfl
        · exact ea
        · exact ed
      · exact s4.dom y3
    exact ⟨y1, y2, s1.dom hz1⟩
theorem ints_of {K : KW} {F : Hp} : ∀ {cs : List Int} {vs : List V}, RpAll K F vs (cs.map PyData.int) → vs = cs.map V.int
  | [], vs, h => by cases h; rfl
  | c :: cs, vs, h => by
    cases h with | cons a b =>
    cases a
    rw [ints_of b]; rfl
/-- desk._comings = a new list -/
def dkM (b : Bool) (r l1 l2 : Addr) : Addr × Addr := match b with
  | true => (r, l2)
  | false => (l1, r)
def aFPut (i : Nat) (b : Bool) (β : AOx) : ASx := fun A env => β env fun ds => ∃ C a dx l1 l2 c xs, env[i]? = some (.ln (dkT C a dx l1 l2 c)) ∧ Apart env i [a, dx, l1, l2] ∧ ds = xs.map PyData.int ∧ ∀ r, [a, dx, (dkM b r l1 l2).1, (dkM b r l1 l2).2].Nodup → (∀ (j : Nat) ψ, j ≠ i → env[j]? = some (.ln ψ) → r ∉ ψ.A) → A.nx (env.set i (.ln (dkT C a dx (dkM b r l1 l2).1 (dkM b r l1 l2).2 (c.put b xs))))
theorem js_fput (i : Nat) (b : Bool) (he : JO X e β) (hN : X.N[i]? = some x := by rfl) (hv : Vis X.env.scope x := by first | exact Or.inl rfl | exact Or.inr (Or.inl rfl) | exact Or.inr (Or.inr rfl)) (hd : (x == ("__debug__" : Str)) = false := by decide)
    (hcd : (x == ("__classdict__" : Str)) = false := by decide) (hs : swapsWith e (some (.Attribute (.Name x px) (dkN b) apos)) pos.line X.env = pure false := by rfl) : JS X (.Assign [.Attribute (.Name x px) (dkN b) apos] e pos) (aFPut i b β) := by
  obtain ⟨t, h1, h2⟩ := he.ex
  refine ⟨_, ps_fld (pe_var hN hv hd hcd) h1 hs, fun B F0 M T env σ H F R0 A D l p => h2 B F0 M T env σ H F R0 _ p _ fun r vs ds H1 F1 s1 e1 e2 e3 d1 p1 => ?_⟩
  obtain ⟨C, a, dx, l1, l2, c, xs, p1, one, rfl, p2⟩ := p1
  have R1 := R0.step s1
  obtain ⟨⟨u0, g10, g20⟩, g30⟩ := R0.ln i _ p1
  obtain ⟨⟨u, g1, g2⟩, g3⟩ := R1.ln i _ p1
  obtain ⟨rfl, hc, nd, q4, q5, q6, vC, vR, q7, q8, q9⟩ := g2
  obtain rfl := ints_of d1
  have off : r ∉ [a, dx, l1, l2] := fun z => by
    obtain ⟨⟨o, y1⟩, _⟩ := g30 r z
    rw [e3] at y1; cases y1
  have nd0 := nd
  simp only [List.nodup_cons, List.mem_cons, List.not_mem_nil, or_false, not_or, List.nodup_nil, and_true, not_false_eq_true] at nd off
  obtain ⟨⟨n1, n2, n3⟩, ⟨n4, n5⟩, n6⟩ := nd
  obtain ⟨o1, o2, o3, o4⟩ := off
  have nd' : [a, dx, (dkM b r l1 l2).1, (dkM b r l1 l2).2].Nodup := by
    cases b <;> simp [dkM, n1, n2, n3, n4, n5, n6, Ne.symm o1, Ne.symm o2, o3, o4, Ne.symm o3, Ne.symm o4]
  have ina : a ∈ [a, dx, l1, l2] := by simp
  obtain ⟨k1, k2, _, k4, _⟩ := g3 a ina
  have hno : NoAttr X.K C (dkN b) := by cases b; exact hc.f4; exact hc.f3
  refine ⟨_, g1, a, C, dx, _, rfl, q7, hc.cls, hno, by simp [dkF], l.nx T _ σ _ F1 (R0.lnMutA (φ' := dkT C a dx (dkM b r l1 l2).1 (dkM b r l1 l2).2 (c.put b xs)) p1 one (StpA.after s1 (StpA.upd R1.bs ina k4 k2 (.inr (by rw [q7]; trivial)))) rfl rfl (fun w hw => ?_) fun z hz => ?_) (p2 r nd' fun j ψ hj he hx => ?_)⟩
  · obtain ⟨rfl, _⟩ := hw
    refine ⟨rfl, hc, nd', ?_, ?_, ?_, vC, vR, ?_, ?_, ?_⟩
    · show upd H1 a _ dx = _
      rw [upd_ne (Ne.symm n1)]; exact q4
    · cases b with
      | true => show upd H1 a _ r = _; rw [upd_ne o1]; exact e1
      | false => show upd H1 a _ l1 = _; rw [upd_ne (Ne.symm n2)]; exact q5
    · cases b with
      | true => show upd H1 a _ l2 = _; rw [upd_ne (Ne.symm n3)]; exact q6
      | false => show upd H1 a _ r = _; rw [upd_ne o1]; exact e1
    · rw [upd_same]
      cases b <;> rfl
    · cases b <;> exact q8
    · cases b <;> exact q9
  · have hz' : z ∈ [a, dx, l1, l2] ∨ z = r := by
      have hz : z ∈ [a, dx, (dkM b r l1 l2).1, (dkM b r l1 l2).2] := hz
      cases b <;> simp only [dkM, List.mem_cons, List.not_mem_nil, or_false] at hz ⊢ <;> rcases hz with h | h | h | h <;> simp [h]
    rcases hz' with hz' | rfl
    · obtain ⟨y1, y2, _⟩ := g3 z hz'
      refine ⟨?_, y2, .inl hz'⟩
      by_cases q : z = a
      · subst q; exact ⟨_, upd_same⟩
      · rw [upd_ne q]; exact y1
    · exact ⟨⟨_, by rw [upd_ne o1]; exact e1⟩, e2, .inr e3⟩
  · obtain ⟨⟨o, ho⟩, _⟩ := (R0.ln j ψ he).2 r hx
    rw [e3] at ho; cases ho
/-- y = self._comings.pop() -/
def aFPop (m i : Nat) (b : Bool) : ASx := fun A env => ∃ C a dx l1 l2 c xs k, env[i]? = some (.ln (dkT C a dx l1 l2 c)) ∧ noLn env i = true ∧ c.get b = xs ++ [k] ∧ A.nx ((env.set i (.ln (dkT C a dx l1 l2 (c.put b xs)))).set m (.va (.int k)))
theorem js_fpop (m i : Nat) (b : Bool) {py : Pos} (nd : X.N.Nodup) (hN : X.N[i]? = some x := by rfl) (hv : Vis X.env.scope x := by first | exact Or.inl rfl | exact Or.inr (Or.inl rfl) | exact Or.inr (Or.inr rfl)) (hd : (x == ("__debug__" : Str)) = false := by decide)
    (hcd : (x == ("__classdict__" : Str)) = false := by decide) (hbf : attributeBase (.Name x px) (dkN b) X.env (eval (.Name x px) X.env) = eval (.Name x px) X.env := by rfl)
    (hbase : attributeBase (.Attribute (.Name x px) (dkN b) fpos) "pop" X.env (eval (.Attribute (.Name x px) (dkN b) fpos) X.env) = eval (.Attribute (.Name x px) (dkN b) fpos) X.env := by rfl)
    (hline : (apos.endLine == p.line) = true := by rfl)
    (hNy : X.N[m]? = some y := by rfl) (hy : Loc X.env.scope y := by first | exact Or.inl rfl | exact Or.inr rfl) (hfy : X.fn y = true ∨ X.env.scope.names.lookup y = some .local := by first | exact .inl rfl | exact .inr rfl | assumption)
    (hsw : swapsWith (.Call (.Attribute (.Attribute (.Name x px) (dkN b) fpos) "pop" apos) [] [] p) (some (.Name y py)) pos.line X.env = pure false := by rfl) : JS X (.Assign [.Name y py] (.Call (.Attribute (.Attribute (.Name x px) (dkN b) fpos) "pop" apos) [] [] p) pos) (aFPop m i b) := by
  refine ⟨_, ps_set nd hNy hy (pe_bm0 PySem.F.plainAttrs_list PySem.F.slot_list_pop PySem.F.type_list_pop mt_pop (pe_fld (pe_var hN hv hd hcd) hbf) hbase hline) hsw hfy, fun B F0 M T env σ H F R0 A D l q => ?_⟩
  obtain ⟨C, a, dx, l1, l2, c, xs, k, p1, one, hx, p2⟩ := q
  obtain ⟨⟨v, g1, g2⟩, g3⟩ := R0.ln i _ p1
  obtain ⟨rfl, cl, na, fs, ha, hlk, hl⟩ := dk_fld b g2
  rw [hx, List.map_append] at hl
  refine ⟨_, g1, a, C, dx, fs, _, rfl, ha, cl, na, hlk, .inl ⟨rfl, _, .inl (.inl hl)⟩, _, _, .int k, rfl, rfl, hl, by simp, ?_⟩
  have R2 := dk_wr R0 p1 one b xs
  have e : (xs.map V.int ++ [k].map V.int).dropLast = xs.map V.int := List.dropLast_concat ..
  rw [e]
  exact l.nx T _ _ _ F (R2.put (.int k) _ rfl) p2
theorem ci_of {K : PySem.W.Frag} {D : Addr} (hd : PySem.W.hasDictIn K D = true) (ty : PySem.W.typeIn K (.ref D) = some (.type "type")) : ((PySem.W.clsIn K D).isSome && PySem.W.typeIn K (.ref D) == some (.type "type")) = true := by
  have hc : (PySem.W.clsIn K D).isSome = true := by
    unfold PySem.W.hasDictIn at hd
    cases z : PySem.W.clsIn K D with
    | none => rw [z] at hd; cases hd
    | some _ => rfl
  rw [hc, ty]; rfl
/-- isinstance(x, Desk) -/
structure IsD (K : PySem.W.Frag) (C : Addr) : Prop where
  cls : Cls K C
  mr : PySem.W.mroIn K C (.type "object") = some true
  cl : PySem.W.findIn K (.ref C) "__class__" = some (some (.builtin "object.__class__"))
  sp : PySem.W.specialIn K (.builtin "object.__class__") "__get__" = some (some (.builtin "getset_descriptor.__get__"))
  tk : PySem.W.takesIn K (.builtin "object.__class__") = some true
  ci : ((PySem.W.clsIn K C).isSome && PySem.W.typeIn K (.ref C) == some (.type "type")) = true
def aIsD (i : Nat) (C : Addr) : AEx := fun env P => (∃ φ, env[i]? = some (.ln φ) ∧ InsAt φ C ∧ P (.bool true)) ∨ ∃ d, env[i]? = some (.va d) ∧ ((∃ z, d = .int z) ∨ ∃ ds, d = .list ds) ∧ P (.bool false)
theorem je_isD (i : Nat) {C : Addr} {n : Str} {p2 : Pos} (D : IsD X.K C) (gy : X.mg y = some (.ref C)) (hm : X.mg x = none) (hv0 : bootBuiltins x = some (.builtin "isinstance"))
    (hgy : Gl X y := by rfl) (hdy : (y == ("__debug__" : Str)) = false := by decide)
    (hg : Gl X x := by rfl) (hN : X.N[i]? = some n := by rfl) (hv : Vis X.env.scope n := by first | exact Or.inl rfl | exact Or.inr (Or.inl rfl) | exact Or.inr (Or.inr rfl)) (hd : (n == ("__debug__" : Str)) = false := by decide) (hcd : (n == ("__classdict__" : Str)) = false := by decide)
    (hn : x ≠ "__name__" := by decide) (hdb : (x == ("__debug__" : Str)) = false := by decide) (h1 : starEach [.Name n px, .Name y p2] X.env = (false, eval (.Name n px) X.env) :: starEach [.Name y p2] X.env := by rfl)
    (h2 : starEach [.Name y p2] X.env = (false, eval (.Name y p2) X.env) :: starEach [] X.env := by rfl) (hpl : (backTo pos (starEach [.Name y p2] X.env)).any (·.1) = false := by rfl) : JE X (.Call (.Name x p) [.Name n px, .Name y p2] [] pos) (aIsD i C) := by
  have ki : ∀ {t : Value}, (t == Value.ref C) = false → PySem.W.subIn X.K t (.ref C) = some false → PySem.W.kitOne X.K t (.ref C) = some false := fun {t} h g => by
    unfold PySem.W.kitOne
    rw [h]
    show PySem.W.kitCls X.K t (.ref C) = _
    exact (if_pos D.ci).trans g
  refine ⟨_, pe_callB call_isi hg hm hv0 (pa_cons (pe_var hN hv hd hcd) (pa_cons (pe_glob (v := .ref C) hgy gy rfl hdy) pa_nil h2) h1) hn hdb h1 hpl, fun B F0 M T env σ H F R0 P q Q r => ?_⟩
  rcases q with ⟨φ, p1, hi, pb⟩ | ⟨d, p1, hd, pb⟩
  · obtain ⟨⟨v, e1, e2⟩, _⟩ := R0.ln i φ p1
    obtain ⟨a, dx, fs, rfl, ea⟩ := hi _ H F v R0.sub e2
    exact ⟨_, e1, .ref a, .ref C, .ref C, .ref C, true, rfl, .own C, .base (.ins ea D.cls D.cl D.sp D.tk D.mr), by unfold PySem.W.kitOne; simp, r _ _ H F (.refl R0.bs) (.bl _) pb⟩
  · obtain ⟨v, e1, e2⟩ := R0.va i d p1
    rcases hd with ⟨z, rfl⟩ | ⟨ds, rfl⟩
    · cases e2
      exact ⟨_, e1, .int z, .ref C, .type "int", .ref C, false, rfl, .own C, .base (.int z), ki rfl sub_int, r _ _ H F (.refl R0.bs) (.bl _) pb⟩
    · cases e2 with | @lst b xs _ x1 y1 =>
      exact ⟨_, e1, .ref b, .ref C, .type "list", .ref C, false, rfl, .own C, .base (.lst (R0.sub _ _ x1)), ki rfl sub_list, r _ _ H F (.refl R0.bs) (.bl _) pb⟩
end
end Lr
namespace Ab
open PySem PySem.Spec PyProof.Rows L2
def canI (K : KW) (ι : AOx) : TI := fun σ H Q => ∃ B F0 M T env F, R K B F0 M T env σ H F ∧ ∃ P, ι env P ∧ ∀ J ds H' F', Stp T H F H' F' → Itm K F' J ds → P ds → Q J H'
theorem JI.can {X : Cx} {tg e : Expr} {ι : AOx} (h : JI X tg e ι) : PI X tg e (canI (kw X) ι) := by
  obtain ⟨t, h1, h2⟩ := h.ex
  refine ⟨fun pins s σ H Q I hw => h1.run pins s σ H Q I ?_⟩
  obtain ⟨B, F0, M, T, env, F, r, P, p, q⟩ := hw
  exact h2 B F0 M T env σ H F r P p Q q
end Ab
namespace Ab
open PySem PySem.Spec PyProof.Rows L2
section
variable {X : Cx} {e a b c : Expr} {pos p : Pos} {α β γ : AEx} {δ ε : AOx} {x y z : Str}
theorem rp_last {K : KW} {F : Hp} : ∀ {ds : List DD} {vs : List V} {d : DD}, RpAll K F vs (ds ++ [d]) → ∃ ws v, vs = ws ++ [v] ∧ RpAll K F ws ds ∧ Rp K F v d
  | [], vs, d, h => by
    obtain ⟨v, rfl, r⟩ := one_of h
    exact ⟨[], v, rfl, .nil, r⟩
  | e :: ds, _, d, h => by
    have h : RpAll K F _ (e :: (ds ++ [d])) := h
    cases h with
    | cons h1 h2 =>
      obtain ⟨ws, v, rfl, h3, h4⟩ := rp_last h2
      exact ⟨_ :: ws, v, rfl, .cons h1 h3, h4⟩
end
end Ab
namespace Ab
open PySem PySem.Spec PyProof.Rows L2
section
variable {X : Cx} {e a b c : Expr} {pos p p2 p3 px py pz pt apos bpos : Pos} {x y z : Str} {k2 kt : Nat} {pt2 : Pos} {ν : AE → (LnT → Prop) → Prop} {β γ δ : AOx}
/-- a fresh list put into a slot, at a later heap -/
theorem R.putO2 {K : KW} {B F0 : Hp} {M T : Tws K} {env : AE} {σ : L2.St} {H F : Hp} {i : Nat} {q : Addr} {vs : List V} {ds : List DD} {env0 : AE} {σ0 : L2.St} {H0 F00 : Hp} (r0 : R K B F0 M T env0 σ0 H0 F00) (n : H0 q = none) (r : R K B F0 M T env σ H F) (h1 : H q = some (.lst vs)) (h2 : F q = none) (h5 : RpAll K F vs ds)
    (hn : ∀ (j : Nat) g, j ≠ i → env[j]? = some (.og g) → σ[j]? ≠ some (some (.ref q))) (hl : ∀ (j : Nat) φ, env[j]? = some (.ln φ) → q ∉ φ.A) : R K B F0 M T (env.set i (.ow ds)) (σ.set i (some (.ref q))) H F :=
  r.putO h1 h2 (r0.toGd.dom n) (fun t => by
    obtain ⟨o, y⟩ := Tws.has (r0.tw q t).2.1
    rw [n] at y; cases y) h5 hn hl
def aPar2OO (i j : Nat) (β γ : AOx) : ASx := fun A env => β env fun ds => γ env fun es => A.nx ((env.set i (.ow ds)).set j (.ow es))
/-- x, y = a new list, a new list -/
theorem js_par2OO (i j : Nat) (hc : X.calm = true) (nd : X.N.Nodup) (ha : JO X a β) (hb : JO X b γ) (hi : X.N[i]? = some x := by rfl) (hj : X.N[j]? = some y := by rfl) (hij : i ≠ j := by decide)
    (hx : X.env.scope.names.lookup x = some .local := by rfl) (hy : X.env.scope.names.lookup y = some .local := by rfl)
    (hw : swappedStores [.Tuple [.Name x px, .Name y py] kt pt] (.Tuple [a, b] k2 pt2) X.env = pure (some [x, y]) := by rfl)
    (hs : swapsWithSole [.Tuple [.Name x px, .Name y py] kt pt] (.Tuple [a, b] k2 pt2) pos.line X.env = pure false := by rfl)
    (h1 : starEach [a, b] X.env = (false, eval a X.env) :: starEach [b] X.env := by rfl) (h2 : starEach [b] X.env = (false, eval b X.env) :: starEach [] X.env := by rfl) : JS X (.Assign [.Tuple [.Name x px, .Name y py] kt pt] (.Tuple [a, b] k2 pt2) pos) (aPar2OO i j β γ) := by
  obtain ⟨t, a1, a2⟩ := ha.ex
  obtain ⟨u, b1, b2⟩ := hb.ex
  refine ⟨_, ps_par hc nd hi hj hij hx hy (pa_cons a1 (pa_cons b1 pa_nil h2) h1) hw hs, fun B F0 M T env σ H F R0 A D l p => a2 B F0 M T env σ H F R0 _ p _ fun q vs ds H1 F1 s1 g1 g2 g3 d1 p1 => ?_⟩
  have R1 := R0.step s1
  refine b2 B F0 M T env σ H1 F1 R1 _ p1 _ fun q2 ws es H2 F2 s2 m1 m2 m3 d2 p2 => ?_
  have R2 := R1.step s2
  obtain ⟨_, f2, f3⟩ := R0.fresh g3
  obtain ⟨_, _, f3'⟩ := R1.fresh m3
  have k1 : H2 q = some (.lst vs) := s2.keep q _ g1 f2
  have ne : q ≠ q2 := fun w => by rw [w, m3] at g1; cases g1
  have R3 := R.putO2 (i := i) R0 g3 R2 k1 (stp_none s2 g2 g1) (RpAll.sub s2.ext _ d1) (fun m g _ hm => f3 m g hm) (R0.lnf g3)
  have il (m : Nat) {s : Sl} (hm : (env.set i (.ow ds))[m]? = some s) : m < σ.length := by
    rw [← R0.len]
    have := (List.getElem?_eq_some_iff.mp hm).1
    rwa [List.length_set] at this
  have R4 := R.putO2 (i := j) R1 m3 R3 m1 m2 d2 (fun m g hmj hm => by
    by_cases w : i = m
    · subst w
      intro hσ
      rw [List.getElem?_set_self (il _ hm)] at hσ
      cases Option.some.inj (Option.some.inj hσ)
      exact ne rfl
    · rw [List.getElem?_set_ne w] at hm ⊢
      exact f3' m g hm) (lnf_set (R1.lnf m3) (fun φ z => by cases z))
  exact ⟨.ref q, .ref q2, rfl, l.nx T _ _ H2 F2 R4 p2⟩
def aPar3M (i j k : Nat) (ν : AE → (LnT → Prop) → Prop) (β γ : AOx) : ASx := fun A env => i < env.length ∧ ν env fun φ => β env fun ds => γ env fun es => A.nx (((env.set i (.ln φ)).set j (.ow ds)).set k (.ow es))
/-- x, y, z = a new thing, a new list, a new list -/
theorem js_par3N (i j k : Nat) (hc : X.calm = true) (nd : X.N.Nodup) (ha : JN X a ν) (hb : JO X b β) (hcc : JO X c γ) (hi : X.N[i]? = some x := by rfl) (hj : X.N[j]? = some y := by rfl) (hk : X.N[k]? = some z := by rfl) (hij : i ≠ j := by decide) (hik : i ≠ k := by decide) (hjk : j ≠ k := by decide)
    (hx : X.env.scope.names.lookup x = some .local := by rfl) (hy : X.env.scope.names.lookup y = some .local := by rfl) (hz : X.env.scope.names.lookup z = some .local := by rfl)
    (hw : swappedStores [.Tuple [.Name x px, .Name y py, .Name z pz] kt pt] (.Tuple [a, b, c] k2 pt2) X.env = pure (some [x, y, z]) := by rfl)
    (hs : swapsWithSole [.Tuple [.Name x px, .Name y py, .Name z pz] kt pt] (.Tuple [a, b, c] k2 pt2) pos.line X.env = pure false := by rfl)
    (h1 : starEach [a, b, c] X.env = (false, eval a X.env) :: starEach [b, c] X.env := by rfl) (h2 : starEach [b, c] X.env = (false, eval b X.env) :: starEach [c] X.env := by rfl) (h3 : starEach [c] X.env = (false, eval c X.env) :: starEach [] X.env := by rfl) :
    JS X (.Assign [.Tuple [.Name x px, .Name y py, .Name z pz] kt pt] (.Tuple [a, b, c] k2 pt2) pos) (aPar3M i j k ν β γ) := by
  obtain ⟨t, a1, a2⟩ := ha.ex
  obtain ⟨u, b1, b2⟩ := hb.ex
  obtain ⟨u', c1, c2⟩ := hcc.ex
  refine ⟨_, ps_par3 hc nd hi hj hk hij hik hjk hx hy hz (pa_cons a1 (pa_cons b1 (pa_cons c1 pa_nil h3) h2) h1) hw hs, fun B F0 M T env σ H F R0 A D l p => ?_⟩
  obtain ⟨il, p⟩ := p
  refine a2 B F0 M T env σ H F R0 _ p _ fun v φ H1 F1 s1 at1 ow1 hA1 p1 => ?_
  have R1 := R0.step s1
  refine b2 B F0 M T env σ H1 F1 R1 _ p1 _ fun q vs ds H2 F2 s2 g1 g2 g3 d1 p2 => ?_
  have R2 := R1.step s2
  refine c2 B F0 M T env σ H2 F2 R2 _ p2 _ fun q2 ws es H3 F3 s3 m1 m2 m3 d2 p3 => ?_
  have R3 := R2.step s3
  have s23 := s2.trans s3
  have ntA : ∀ w ∈ φ.A, ¬ T w := fun w hw t => by
    obtain ⟨o, y⟩ := Tws.has (R0.tw w t).2.1
    rw [(hA1 w hw).2.2] at y; cases y
  obtain ⟨_, f2, f3⟩ := R1.fresh g3
  obtain ⟨_, _, f3'⟩ := R2.fresh m3
  have k1 : H3 q = some (.lst vs) := s3.keep q _ g1 f2
  have k2 : F3 q = none := stp_none s3 g2 g1
  have ne : q ≠ q2 := fun w => by rw [w, m3] at g1; cases g1
  have kA : ∀ w ∈ φ.A, H3 w = H1 w ∧ F3 w = none := fun w hw => by
    obtain ⟨⟨o, ho⟩, hf, _⟩ := hA1 w hw
    exact ⟨by rw [ho]; exact s23.keep w o ho (ntA w hw), stp_none s23 hf ho⟩
  have at3 : φ.at_ (kw X) H3 F3 v := φ.mono at1 (fun w hw => (kA w hw).1) s23.ext
  have R4 := R3.putL (i := i) (φ := φ) (v := v) il at3 fun w hw => by
    obtain ⟨⟨o, ho⟩, hf, hn⟩ := hA1 w hw
    refine ⟨⟨o, by rw [(kA w hw).1]; exact ho⟩, (kA w hw).2, R0.toGd.dom hn, ntA w hw, fun m g hm hσ => ?_⟩
    obtain ⟨b, o', e1, e2, _⟩ := R0.og m g hm
    rw [hσ] at e1
    cases e1
    rw [hn] at e2; cases e2
  have len1 (m : Nat) {s s' : Sl} (hm : (env.set i s')[m]? = some s) : m < σ.length := by
    rw [← R0.len]
    have := (List.getElem?_eq_some_iff.mp hm).1
    rwa [List.length_set] at this
  have lnA {q : Addr} (nq : H1 q = none) (hl : ∀ (m : Nat) ψ, env[m]? = some (.ln ψ) → q ∉ ψ.A) : ∀ (m : Nat) ψ, (env.set i (.ln φ))[m]? = some (.ln ψ) → q ∉ ψ.A := fun m ψ hm => by
    by_cases w : i = m
    · subst w
      rw [List.getElem?_set_self il] at hm
      cases Option.some.inj hm
      intro hq
      obtain ⟨⟨o, ho⟩, _⟩ := hA1 q hq
      rw [nq] at ho; cases ho
    · rw [List.getElem?_set_ne w] at hm
      exact hl m ψ hm
  have og1 {q : Addr} (hf : ∀ (m : Nat) g, env[m]? = some (.og g) → σ[m]? ≠ some (some (.ref q))) : ∀ (m : Nat) g, (env.set i (.ln φ))[m]? = some (.og g) → (σ.set i (some v))[m]? ≠ some (some (.ref q)) := fun m g hm => by
    by_cases w : i = m
    · subst w
      rw [List.getElem?_set_self il] at hm
      cases hm
    · rw [List.getElem?_set_ne w] at hm ⊢
      exact hf m g hm
  have R5 := R.putO2 (i := j) R1 g3 R4 k1 k2 (RpAll.sub s3.ext _ d1) (fun m g _ hm => og1 f3 m g hm) (lnA g3 (R1.lnf g3))
  have n2 : H1 q2 = none := by
    cases e : H1 q2 with
    | none => rfl
    | some o =>
      by_cases tq : T q2
      · obtain ⟨o', y⟩ := Tws.has (R2.tw q2 tq).2.1
        rw [m3] at y; cases y
      · have := s2.keep q2 o e tq
        rw [m3] at this; cases this
  have R6 := R.putO2 (i := k) R2 m3 R5 m1 m2 d2 (fun m g hmk hm => by
    by_cases w : j = m
    · subst w
      intro hσ
      have hl : j < (σ.set i (some v)).length := by
        rw [← R4.len]
        have := (List.getElem?_eq_some_iff.mp hm).1
        rwa [List.length_set] at this
      rw [List.getElem?_set_self hl] at hσ
      cases Option.some.inj (Option.some.inj hσ)
      exact ne rfl
    · rw [List.getElem?_set_ne w] at hm ⊢
      exact og1 f3' m g hm) (lnf_set (lnA n2 (R2.lnf m3)) (fun φ z => by cases z))
  exact ⟨v, .ref q, .ref q2, rfl, l.nx T _ _ H3 F3 R6 p3⟩
/-- x.append(y.pop()) -/
def aAppPop (i j : Nat) : ASx := fun A env => ∃ xs ys d, env[i]? = some (.ow xs) ∧ env[j]? = some (.ow (ys ++ [d])) ∧ xs.length < 1000 ∧ A.nx ((env.set j (.ow ys)).set i (.ow (xs ++ [d])))
theorem js_appPop (i j : Nat) (hij : i ≠ j) (hN : X.N[i]? = some x := by rfl) (hv : Vis X.env.scope x := by first | exact Or.inl rfl | exact Or.inr (Or.inl rfl) | exact Or.inr (Or.inr rfl)) (hd : (x == ("__debug__" : Str)) = false := by decide)
    (hcd : (x == ("__classdict__" : Str)) = false := by decide) (hN2 : X.N[j]? = some y := by rfl) (hv2 : Vis X.env.scope y := by first | exact Or.inl rfl | exact Or.inr (Or.inl rfl) | exact Or.inr (Or.inr rfl)) (hd2 : (y == ("__debug__" : Str)) = false := by decide)
    (hcd2 : (y == ("__classdict__" : Str)) = false := by decide) (hbase2 : attributeBase (.Name y py) "pop" X.env (eval (.Name y py) X.env) = eval (.Name y py) X.env := by rfl) (hline2 : (bpos.endLine == p2.line) = true := by rfl)
    (hbase : attributeBase (.Name x px) "append" X.env (eval (.Name x px) X.env) = eval (.Name x px) X.env := by rfl)
    (hfew : ((backTo p (starEach [.Call (.Attribute (.Name y py) "pop" bpos) [] [] p2] X.env)).all (fun x => !x.1) && (backToKw p (keywordEach [] X.env)).all (fun x => x.1.isSome)
      && decide ([Expr.Call (.Attribute (.Name y py) "pop" bpos) [] [] p2].length + ([] : List Keyword).length + (if ([] : List Keyword).isEmpty then 0 else 1) < 30)) = true := by rfl)
    (hline : (apos.endLine == p.line) = true := by rfl) (hs : starEach [.Call (.Attribute (.Name y py) "pop" bpos) [] [] p2] X.env = (false, eval (.Call (.Attribute (.Name y py) "pop" bpos) [] [] p2) X.env) :: starEach [] X.env := by rfl) (hplain : (backTo p (starEach [] X.env)).any (·.1) = false := by rfl)
    (hsw : swapsWith (.Call (.Attribute (.Name x px) "append" apos) [.Call (.Attribute (.Name y py) "pop" bpos) [] [] p2] [] p) none pos.line X.env = pure false := by rfl) : JS X (.Expr (.Call (.Attribute (.Name x px) "append" apos) [.Call (.Attribute (.Name y py) "pop" bpos) [] [] p2] [] p) pos) (aAppPop i j) := by
  refine ⟨_, ps_expr (pe_bm PySem.F.plainAttrs_list PySem.F.slot_list_append PySem.F.type_list_append mt_append (pe_var hN hv hd hcd) (pa_cons (pe_bm0 PySem.F.plainAttrs_list PySem.F.slot_list_pop PySem.F.type_list_pop mt_pop (pe_var hN2 hv2 hd2 hcd2) hbase2 hline2) pa_nil hs) hbase hfew hline hs hplain) hsw, fun B F0 M T env σ H F R0 A D l q => ?_⟩
  obtain ⟨xs, ys, d, q1, q2, hl, q3⟩ := q
  obtain ⟨a, vs, e1, e2, e3, e4, e5, e6⟩ := R0.ow i _ q1
  obtain ⟨b, us, g1, g2, g3, g4, g5, g6⟩ := R0.ow j _ q2
  obtain ⟨ws, v, rfl, h1, h2⟩ := rp_last g6
  refine ⟨_, e1, .inl ⟨rfl, vs, .inl (.inl e2)⟩, _, g1, .inl ⟨rfl, _, .inl (.inl g2)⟩, b, _, v, rfl, rfl, g2, by simp, ?_⟩
  rw [List.dropLast_concat]
  have R1 := R0.mut q2 g1 h1
  have q1' : (env.set j (.ow ys))[i]? = some (.ow xs) := by rw [List.getElem?_set_ne (Ne.symm hij)]; exact q1
  obtain ⟨ws', f2, f6⟩ := R1.owAt q1' e1
  exact ⟨a, ws', v, rfl, rfl, f2, by rw [f6.len]; exact line_lt (show xs.length < 100000 by omega), l.nx T _ σ _ F (R1.mut q1' e1 (f6.app (.cons h2 .nil))) q3⟩
/-- x = x + [y.pop()] -/
def aCatPop (i j : Nat) : ASx := fun A env => ∃ xs ys d, env[i]? = some (.ow xs) ∧ env[j]? = some (.ow (ys ++ [d])) ∧ xs.length < 1000 ∧ A.nx ((env.set j (.ow ys)).set i (.ow (xs ++ [d])))
theorem js_catPop (i j : Nat) {lp bp : Pos} (nd : X.N.Nodup) (hij : i ≠ j) (hN : X.N[i]? = some x := by rfl) (hv : Vis X.env.scope x := by first | exact Or.inl rfl | exact Or.inr (Or.inl rfl) | exact Or.inr (Or.inr rfl)) (hd : (x == ("__debug__" : Str)) = false := by decide)
    (hcd : (x == ("__classdict__" : Str)) = false := by decide) (hN2 : X.N[j]? = some y := by rfl) (hv2 : Vis X.env.scope y := by first | exact Or.inl rfl | exact Or.inr (Or.inl rfl) | exact Or.inr (Or.inr rfl)) (hd2 : (y == ("__debug__" : Str)) = false := by decide)
    (hcd2 : (y == ("__classdict__" : Str)) = false := by decide) (hbase2 : attributeBase (.Name y py) "pop" X.env (eval (.Name y py) X.env) = eval (.Name y py) X.env := by rfl) (hline2 : (bpos.endLine == p2.line) = true := by rfl)
    (hs : starEach [.Call (.Attribute (.Name y py) "pop" bpos) [] [] p2] X.env = (false, eval (.Call (.Attribute (.Name y py) "pop" bpos) [] [] p2) X.env) :: starEach [] X.env := by rfl)
    (hx : Loc X.env.scope x := by first | exact Or.inl rfl | exact Or.inr rfl) (hf : X.fn x = true ∨ X.env.scope.names.lookup x = some .local := by first | exact .inl rfl | exact .inr rfl | assumption)
    (hsw : swapsWith (.BinOp (.Name x px) .Add (.List [.Call (.Attribute (.Name y py) "pop" bpos) [] [] p2] lp) bp) (some (.Name x p)) pos.line X.env = pure false := by rfl) :
    JS X (.Assign [.Name x p] (.BinOp (.Name x px) .Add (.List [.Call (.Attribute (.Name y py) "pop" bpos) [] [] p2] lp) bp) pos) (aCatPop i j) := by
  refine ⟨_, ps_set nd hN hx (pe_op op_cat (pe_var hN hv hd hcd) (pe_lst (pa_cons (pe_bm0 PySem.F.plainAttrs_list PySem.F.slot_list_pop PySem.F.type_list_pop mt_pop (pe_var hN2 hv2 hd2 hcd2) hbase2 hline2) pa_nil hs))) hsw hf, fun B F0 M T env σ H F R0 A D l q => ?_⟩
  obtain ⟨xs, ys, d, q1, q2, hl, q3⟩ := q
  obtain ⟨a, vs, e1, e2, e3, e4, e5, e6⟩ := R0.ow i _ q1
  obtain ⟨b, us, g1, g2, g3, g4, g5, g6⟩ := R0.ow j _ q2
  obtain ⟨ws, v, rfl, h1, h2⟩ := rp_last g6
  refine ⟨_, e1, _, g1, .inl ⟨rfl, _, .inl (.inl g2)⟩, b, _, v, rfl, rfl, g2, by simp, ?_⟩
  rw [List.dropLast_concat]
  have R1 := R0.mut q2 g1 h1
  have q1' : (env.set j (.ow ys))[i]? = some (.ow xs) := by rw [List.getElem?_set_ne (Ne.symm hij)]; exact q1
  obtain ⟨ws', f2, f6⟩ := R1.owAt q1' e1
  refine ⟨by simp [sizeLine_eq], fun r hr => ?_⟩
  have s1 : Stp T (upd H b (.lst ws)) F (upd (upd H b (.lst ws)) r (.lst [v])) F := .al0 R1.bs hr
  have R2 := R1.step s1
  have nt : ∀ w, (upd H b (.lst ws)) w = none → ¬ T w := fun w hw t => by
    obtain ⟨o, y⟩ := Tws.has (R1.tw w t).2.1
    rw [hw] at y; cases y
  have ne : a ≠ r := fun z => by rw [← z, f2] at hr; cases hr
  refine ⟨a, r, ws', [v], rfl, rfl, by rw [upd_ne ne]; exact f2, upd_same, by rw [f6.len, sizeLine_eq]; simp; omega, fun r2 hr2 => ?_⟩
  have s2 : Stp T _ F (upd (upd (upd H b (.lst ws)) r (.lst [v])) r2 (.lst (ws' ++ [v]))) F := .al0 R2.bs hr2
  have R3 := R2.step s2
  have R4 := R3.unv i (some (.ref r2))
  have n0 : (upd H b (.lst ws)) r2 = none := by
    by_cases z : r2 = r
    · rw [z, upd_same] at hr2; cases hr2
    · rw [upd_ne z] at hr2; exact hr2
  have R5 := R.putO2 (i := i) (q := r2) R1 n0 R4 upd_same (fnone R1.bs n0) (f6.app (.cons h2 .nil)) (fun m g hm hg => by
    rw [List.getElem?_set_ne (Ne.symm hm)] at hg ⊢
    exact (R1.fresh n0).2.2 m g hg) (lnf_set (R1.lnf n0) (fun φ z => by cases z))
  rw [List.set_set, List.set_set] at R5
  exact l.nx T _ _ _ F R5 q3
/-- x = f(x, y), where f changes x and hands another back; y a list of one's own -/
def trT (A : List Addr) : LnT where
  A := A
  own := true
  at_ := fun _ _ _ _ => True
  mono := fun _ _ _ => trivial
def aSetDNo (i j n : Nat) (W : WtN) : ASx := fun A env => ∃ φ ds, env[i]? = some (.ln φ) ∧ Apart env i φ.A ∧ φ.own = true ∧ env[j]? = some (.ow ds) ∧ n = 2 ∧ W [.ln φ, .va (.list ds)] fun ψ => OffOk ψ ∧ A.nx (env.set i (.ln ψ))
theorem js_setDNo (i j : Nat) {f : Str} {k n : Nat} {W : WtN} (nd : X.N.Nodup) (C : ClDN X.prog X.w X.K X.mg X.base k f n W) (hr : Room k X.A) (hN : X.N[i]? = some x := by rfl) (hv : Vis X.env.scope x := by first | exact Or.inl rfl | exact Or.inr (Or.inl rfl) | exact Or.inr (Or.inr rfl)) (hd : (x == ("__debug__" : Str)) = false := by decide)
    (hcd : (x == ("__classdict__" : Str)) = false := by decide) (hN2 : X.N[j]? = some y := by rfl) (hv2 : Vis X.env.scope y := by first | exact Or.inl rfl | exact Or.inr (Or.inl rfl) | exact Or.inr (Or.inr rfl)) (hd2 : (y == ("__debug__" : Str)) = false := by decide)
    (hcd2 : (y == ("__classdict__" : Str)) = false := by decide) (hg : Gl X f := by rfl) (hdb : (f == ("__debug__" : Str)) = false := by decide)
    (he : starEach [.Name x px, .Name y py] X.env = (false, eval (.Name x px) X.env) :: starEach [.Name y py] X.env := by rfl) (he2 : starEach [.Name y py] X.env = (false, eval (.Name y py) X.env) :: starEach [] X.env := by rfl) (hpl : (backTo p2 (starEach [.Name y py] X.env)).any (·.1) = false := by rfl)
    (hx : Loc X.env.scope x := by first | exact Or.inl rfl | exact Or.inr rfl) (hs : swapsWith (.Call (.Name f apos) [.Name x px, .Name y py] [] p2) (some (.Name x p)) pos.line X.env = pure false := by rfl)
    (hf : X.fn x = true ∨ X.env.scope.names.lookup x = some .local := by first | exact .inl rfl | exact .inr rfl | assumption) : JS X (.Assign [.Name x p] (.Call (.Name f apos) [.Name x px, .Name y py] [] p2) pos) (aSetDNo i j n W) := by
  obtain ⟨fa, fd, ps, g1, g2, g3, g4⟩ := C.ex
  refine ⟨_, ps_set nd hN hx (pe_call g1 hr hg g2 g3 g4 .nil pass0 (pa_cons (pe_var hN hv hd hcd) (pa_cons (pe_var hN2 hv2 hd2 hcd2) pa_nil he2) he) hdb he hpl) hs hf, fun B F0 M T env σ H F R0 A D l q => ?_⟩
  obtain ⟨φ, ds, p1, one, ow, ej, rfl, w⟩ := q
  obtain ⟨⟨v, e1, e2⟩, e3⟩ := R0.ln i φ p1
  obtain ⟨b, us, q1, q2, q3, q4, q5, R1⟩ := R0.frzX ej True.intro
  obtain ⟨vs, rfl, q6⟩ := q5.lstOf
  have nbA : b ∉ φ.A := fun z => (e3 b z).2.2.2.2 j _ ej q1
  have sF : Sub F (upd F b (.lst vs)) := sub_upd q3
  refine ⟨_, e1, _, q1, ?_⟩
  refine ⟨upd F b (.lst vs), T, φ, v, [.ref b], _, _, rfl, R1.bs, ow, φ.mono e2 (fun _ _ => rfl) sF, fun y hy => ?_, .cons (.va (.lst upd_same (RpAll.sub sF _ q6))) .nil, rfl, w, fun u ψ φ' H2 F2 to s at2 A2 atp own' hA pd => ?_⟩
  · obtain ⟨k1, k2, _, k4, _⟩ := e3 y hy
    exact ⟨k1, by rw [upd_ne (show y ≠ b from fun z => nbA (by rw [← z]; exact hy))]; exact k2, k4⟩
  obtain ⟨off, pd⟩ := pd
  have il : i < env.length := (List.getElem?_eq_some_iff.mp p1).1
  have fb : F2 b = some (.lst vs) := s.ext b _ upd_same
  have sA : StpA T φ.A H F H2 (offL F2 [b]) := by
    refine ⟨fun a o e => s.sub a o (off_in e).1, fun a o e => ?_, fun a o e => ?_, s.keep, s.tc⟩
    · unfold offL
      rw [if_neg fun z => by rw [List.mem_singleton.mp z, q3] at e; cases e]
      exact s.ext a o (sF a o e)
    · obtain ⟨e4, ne⟩ := off_in e
      rcases s.new a o e4 with z | z
      · rw [upd_ne fun y => ne (List.mem_singleton.mpr y)] at z
        exact .inl z
      · exact .inr z
  have offn : ∀ a, F2 a = none → offL F2 [b] a = none := fun a h => by
    unfold offL
    split
    · rfl
    · exact h
  have R2 := R0.lnMutA (φ' := trT φ'.A) p1 one sA ow rfl (fun _ _ => trivial) fun z hz => by
    obtain ⟨y1, y2, y3⟩ := A2 z hz
    exact ⟨y1, offn z y2, y3⟩
  have R3 := R2.unv i (some u)
  rw [List.set_set] at R3
  have R4 := R3.putL (i := i) (φ := ψ) (v := u) (by rw [List.length_set]; exact il) (off _ _ _ _ [b] atp fun y hy => by rw [List.mem_singleton.mp hy]; exact ⟨_, fb⟩) fun z hz => ?_
  · rw [List.set_set, List.set_set] at R4
    exact l.nx T _ _ H2 _ R4 pd
  · obtain ⟨y1, y2, y3⟩ := hA z hz
    refine ⟨y1, offn z y2, ?_, ?_, fun m g hm hσ => ?_⟩
    · rcases y3 with y3 | y3
      · exact R0.toGd.dom y3
      · exact (e3 z y3).2.2.1 ow
    · rcases y3 with y3 | y3
      · intro t
        obtain ⟨o, y⟩ := Tws.has (R0.tw z t).2.1
        rw [y3] at y; cases y
      · exact (e3 z y3).2.2.2.1
    · by_cases q : i = m
      · subst q
        rw [List.getElem?_set_self il] at hm
        cases hm
      · rw [List.getElem?_set_ne q] at hm hσ
        rcases y3 with y3 | y3
        · obtain ⟨c, u, k1, k2, _⟩ := R0.og m g hm
          rw [hσ] at k1
          cases k1
          rw [y3] at k2; cases k2
        · exact (e3 z y3).2.2.2.2 m g hm hσ
end
end Ab
namespace Ab
open PySem PySem.Spec PyProof.Rows L2
/-- x is True, x is False: x a number or a bool -/
def rIsIB : R2 := fun x y H Q => ∃ b : Bool, y = .bl b ∧ ((∃ i, x = .int i ∧ Q (.bl false) H) ∨ ∃ a, x = .bl a ∧ Q (.bl (decide (a = b))) H)
theorem op_isIB {X : Cx} : OpR X (compareOp .Is) rIsIB := by
  intro pins s σ H x y v u Q I rx ry h
  obtain ⟨b, rfl, h⟩ := h
  cases (show u = Value.bool b from ry)
  rcases h with ⟨i, rfl, q⟩ | ⟨a, rfl, q⟩
  · obtain ⟨t, rfl⟩ := (show ∃ t, v = Value.int i t from rx)
    exact wpAny_is_other rfl (fun z => nomatch z) ⟨.bl false, H, I, rfl, q⟩
  · exact op_isBl pins s σ H (.bl a) (.bl b) v _ Q I rx rfl ⟨a, b, rfl, rfl, q⟩
def dIsIB : DD → DD → (DD → Prop) → Prop := fun x y P => ∃ b : Bool, y = .bool b ∧ ((∃ i, x = .int i ∧ P (.bool false)) ∨ ∃ a : Bool, x = .bool a ∧ P (.bool (decide (a = b))))
theorem sr_isIB {K : KW} : SimR K rIsIB dIsIB := fun T H F x y dx dy b hx hy P p Q q => by
  obtain ⟨c, rfl, h⟩ := p
  cases hy
  rcases h with ⟨i, rfl, p⟩ | ⟨a, rfl, p⟩
  · cases hx
    exact ⟨c, rfl, .inl ⟨i, rfl, q _ _ H F (.refl b) (.bl _) p⟩⟩
  · cases hx
    exact ⟨c, rfl, .inr ⟨a, rfl, q _ _ H F (.refl b) (.bl _) p⟩⟩
theorem j_isIB {X : Cx} {a b : Expr} {pos : Pos} {α β : AEx} (ha : JE X a α) (hb : JE X b β) : JE X (.Compare a [.Is] [b] pos) (aB dIsIB α β) := j_cmp op_isIB sr_isIB ha hb (nomark _)
end Ab
namespace Lr
open PySem PySem.Spec PyProof.Rows Ab L2
section
variable {C a dx l1 l2 a' dx' l1' l2' : Addr} {c : Dk}
theorem dkZ_at : InsAt (dkZ C a dx l1 l2 c) C := fun K H F v sb h => by
  obtain ⟨h1, hc, vC, vR, h6, _⟩ := h
  exact ⟨a, dx, _, h1, sb _ _ h6⟩
theorem dkZ_crossing : FldZ (dkZ C a dx l1 l2 c) "_crossing" (crD c.room c.pause) := fun K H F v sb h => by
  obtain ⟨h1, hc, vC, vR, h6, h7, h8, h9, h10⟩ := h
  exact ⟨a, C, dx, _, vC, h1, sb _ _ h6, hc.cls, hc.f1, rfl, h7⟩
theorem dkZ_rule : FldZ (dkZ C a dx l1 l2 c) "_rule" c.rule.d := fun K H F v sb h => by
  obtain ⟨h1, hc, vC, vR, h6, h7, h8, h9, h10⟩ := h
  exact ⟨a, C, dx, _, vR, h1, sb _ _ h6, hc.cls, hc.f2, rfl, h8⟩
theorem dk_off : OffOk (dkT C a dx l1 l2 c) := fun K H F v ls h hl => by
  obtain ⟨h1, hc, h2, h3, h4, h5, vC, vR, h6, h7, h8⟩ := h
  exact ⟨h1, hc, h2, h3, h4, h5, vC, vR, h6, Rp.off hl _ rfl h7, Rp.off hl _ (by cases c.rule <;> rfl) h8⟩
theorem dk_ref {K : KW} {H F : Hp} {v : V} (h : (dkT C a dx l1 l2 c).at_ K H F v) : ∃ a : Addr, v = .ref a := ⟨a, h.1⟩
end
theorem fld_undone {C a dx l1 l2 : Addr} {c : Dk} : FldIs (dkR C a dx l1 l2 c) "_undone" (coD c.un) := fun K H F v h => by
  obtain ⟨h1, hc, vC, vR, h6, h7, h8, h9, h10⟩ := h
  exact ⟨a, C, dx, _, .ref l2, h1, h6, hc.cls, hc.f4, rfl, h10⟩
def Dk.undo (c : Dk) (xs : List Int) (k : Int) : Dk := { c with cs := xs, un := c.un ++ [k] }
def Dk.redo (c : Dk) (xs : List Int) (k : Int) : Dk := { c with cs := c.cs ++ [k], un := xs }
def Dk.sm (c : Dk) : Prop := c.cs.length + c.un.length ≤ 40 ∧ ∀ x ∈ c.un, ComOk x
def Dk.same (c c' : Dk) : Bool := (decide (c.room = c'.room) && decide (c.pause = c'.pause)) && (decide (c.rule = c'.rule) && decide (c.cs = c'.cs))
def W_eq (C : Addr) : Wt := fun as P => (∃ a dx l1 l2 c a' dx' l1' l2' c', as = [.ln (dkZ C a dx l1 l2 c), .ln (dkZ C a' dx' l1' l2' c')] ∧ P (.bool (c.same c'))) ∨ ∃ a dx l1 l2 c d, as = [.ln (dkZ C a dx l1 l2 c), .va d] ∧ ((∃ z, d = .int z) ∨ ∃ ds, d = .list ds) ∧ P (.bool false)
def WX_undo (C CN : Addr) : WtMX := fun as P PE => ∃ a dx l1 l2 c, as = [.ln (dkT C a dx l1 l2 c)] ∧ c.sm ∧ (∀ xs k, c.cs = xs ++ [k] → P (.int k) (dkT C a dx l1 l2 (c.undo xs k))) ∧ (c.cs = [] → PE CN)
def WX_redo (C CN : Addr) : WtMX := fun as P PE => ∃ a dx l1 l2 c, as = [.ln (dkT C a dx l1 l2 c)] ∧ c.sm ∧ (∀ xs k, c.un = xs ++ [k] → P (.int k) (dkT C a dx l1 l2 (c.redo xs k))) ∧ (c.un = [] → PE CN)
def W_copy (C : Addr) : WtN := fun as P => ∃ a dx l1 l2 c, as = [.ln (dkR C a dx l1 l2 c)] ∧ DkOk c ∧ ∀ a' dx' l1' l2', [a', dx', l1', l2'].Nodup → P (dkT C a' dx' l1' l2' c)
def W_back (K : PySem.W.Frag) (CL CN C : Addr) : WtM := fun as P => ∃ a dx l1 l2 c b, as = [.ln (dkT C a dx l1 l2 c), .va (.bool b)] ∧ c.sm ∧ OkP K CL CN CN ∧
  (b = true → (∀ xs k, c.cs = xs ++ [k] → P (.int k) (dkT C a dx l1 l2 (c.undo xs k))) ∧ (c.cs = [] → P (.bool false) (dkT C a dx l1 l2 c))) ∧
  (b = false → (∀ xs k, c.un = xs ++ [k] → P (.int k) (dkT C a dx l1 l2 (c.redo xs k))) ∧ (c.un = [] → P (.bool false) (dkT C a dx l1 l2 c)))
def W_copied (K : PySem.W.Frag) (CL CN C : Addr) : WtN := fun as P => ∃ a dx l1 l2 c, as = [.ln (dkT C a dx l1 l2 c), .va (coD c.cs)] ∧ [a, dx, l1, l2].Nodup ∧ DkOk c ∧ c.sm ∧ OkP K CL CN CN ∧ ∀ a' dx' l1' l2', [a', dx', l1', l2'].Nodup → P (dkT C a' dx' l1' l2' c)
theorem snoc_ex {α : Type} {l : List α} (h : l ≠ []) : ∃ xs k, l = xs ++ [k] := ⟨_, _, (List.dropLast_concat_getLast h).symm⟩
theorem same_self (c : Dk) : c.same c = true := by simp [Dk.same]
theorem dEq_cr {r p r' p' : Int} {P : DD → Prop} (q : P (.bool (decide (r = r') && decide (p = p')))) : dEq (crD r p) (crD r' p') P := by
  refine ⟨(Sh.tup (n := 0) (Sh.cons Sh.int (Sh.cons Sh.int Sh.nil))).ok (by decide), (Sh.tup (n := 0) (Sh.cons Sh.int (Sh.cons Sh.int Sh.nil))).ok (by decide), ?_⟩
  have e : PyData.eqv (crD r p) (crD r' p') = (decide (r = r') && decide (p = p')) := by
    simp [crD, PyData.eqv, PyData.eqvAll, Bool.and_assoc]
    rfl
  rw [e]; exact q
theorem ints_eqv : ∀ cs ds : List Int, PyData.eqvAll (cs.map PyData.int) (ds.map PyData.int) = decide (cs = ds)
  | [], [] => rfl
  | [], _ :: _ => rfl
  | _ :: _, [] => rfl
  | c :: cs, d :: ds => by
    rw [List.map_cons, List.map_cons, PyData.eqvAll, eqv_int, ints_eqv cs ds, ← Bool.decide_and]
    exact decide_eq_decide.mpr (by rw [List.cons.injEq])
theorem sh_co (cs : List Int) : Sh 2 (coD cs) := Sh.list (Sh.map fun x _ => Sh.int)
theorem dEq_co {cs ds : List Int} {P : DD → Prop} (q : P (.bool (decide (cs = ds)))) : dEq (coD cs) (coD ds) P := by
  refine ⟨(sh_co cs).ok (by decide), (sh_co ds).ok (by decide), ?_⟩
  have e : PyData.eqv (coD cs) (coD ds) = decide (cs = ds) := by
    unfold coD
    rw [PyData.eqv]; exact ints_eqv cs ds
  rw [e]; exact q
theorem dEq_ru {r s : Rule} {P : DD → Prop} (q : P (.bool (decide (r = s)))) : dEq r.d s.d P := by
  refine ⟨(Rule.sh r).ok (by decide), (Rule.sh s).ok (by decide), ?_⟩
  rw [rule_eqv]; exact q
theorem coD_snoc {cs : List Int} {e : Int} : cs.map PyData.int ++ [PyData.int e] = (cs ++ [e]).map PyData.int := by rw [List.map_append]; rfl
theorem dNe_ru {r s : Rule} {P : DD → Prop} (q : P (.bool (!decide (r = s)))) : dNe r.d s.d P := by
  refine ⟨(Rule.sh r).ok (by decide), (Rule.sh s).ok (by decide), ?_⟩
  rw [rule_eqv]; exact q
theorem dNe_co {cs ds : List Int} {P : DD → Prop} (q : P (.bool (!decide (cs = ds)))) : dNe (coD cs) (coD ds) P := by
  refine ⟨(sh_co cs).ok (by decide), (sh_co ds).ok (by decide), ?_⟩
  have e : PyData.eqv (coD cs) (coD ds) = decide (cs = ds) := by
    unfold coD
    rw [PyData.eqv]; exact ints_eqv cs ds
  rw [e]; exact q
end Lr
namespace Ab
open PySem PySem.Spec PyProof.Rows L2
end Ab
namespace Ab
open PySem PySem.Spec PyProof.Rows L2
end Ab
namespace Ab
open PySem PySem.Spec PyProof.Rows L2
inductive NR (K : KW) (H F : Hp) : List Addr → List (DD × Int) → Prop
  | nil : NR K H F [] []
  | cons {b : Addr} {bs : List Addr} {v : V} {e : DD} {n : Int} {rows : List (DD × Int)} : H b = some (.lst [v, .int n]) → Rp K F v e → NR K H F bs rows → NR K H F (b :: bs) ((e, n) :: rows)
section
variable {K : KW} {B F0 : Hp} {M T : Tws K} {env : AE} {σ : L2.St} {H F H' F' : Hp}
theorem NR.len : ∀ {bs : List Addr} {rows : List (DD × Int)}, NR K H F bs rows → bs.length = rows.length
  | _, _, .nil => rfl
  | _, _, .cons _ _ t => by rw [List.length_cons, List.length_cons, NR.len t]
theorem NR.mono (hH : ∀ b u, b ∈ bs → H b = some u → H' b = some u) (hF : Sub F F') : ∀ {rows : List (DD × Int)}, NR K H F bs rows → NR K H' F' bs rows := by
  induction bs with
  | nil => intro rows h; cases h; exact .nil
  | cons b bs ih =>
    intro rows h
    cases h with
    | cons h1 h2 h3 => exact .cons (hH b _ List.mem_cons_self h1) (Rp.sub hF _ h2) (ih (fun c u hc e => hH c u (List.mem_cons_of_mem _ hc) e) h3)
theorem NR.app : ∀ {bs cs : List Addr} {rows ros : List (DD × Int)}, NR K H F bs rows → NR K H F cs ros → NR K H F (bs ++ cs) (rows ++ ros)
  | _, _, _, _, .nil, g => g
  | _, _, _, _, .cons h1 h2 h3, g => .cons h1 h2 (NR.app h3 g)
structure Nst (K : KW) (B : Hp) (T : Tws K) (H F : Hp) (a : Addr) (bs : List Addr) (rows : List (DD × Int)) : Prop where
  at_ : H a = some (.lst (bs.map V.ref))
  nd : (a :: bs).Nodup
  fr : ∀ x ∈ a :: bs, F x = none ∧ B x = none ∧ ¬ T x
  nr : NR K H F bs rows
theorem Nst.old {a : Addr} {bs : List Addr} {rows : List (DD × Int)} (h : Nst K B T H F a bs rows) : ∀ x ∈ a :: bs, ∃ u, H x = some u := by
  intro x hx
  rcases List.mem_cons.mp hx with rfl | hx
  · exact ⟨_, h.at_⟩
  · have : ∀ {bs : List Addr} {rows : List (DD × Int)}, NR K H F bs rows → ∀ x ∈ bs, ∃ u, H x = some u := by
      intro bs
      induction bs with
      | nil => intro rows _ x hx; cases hx
      | cons b bs ih =>
        intro rows h x hx
        cases h with
        | cons h1 h2 h3 =>
          rcases List.mem_cons.mp hx with rfl | hx
          · exact ⟨_, h1⟩
          · exact ih h3 x hx
    exact this h.nr x hx
theorem Nst.step {a : Addr} {bs : List Addr} {rows : List (DD × Int)} (h : Nst K B T H F a bs rows) (s : Stp T H F H' F') : Nst K B T H' F' a bs rows := by
  refine ⟨s.keep a _ h.at_ (h.fr a List.mem_cons_self).2.2, h.nd, fun x hx => ?_, h.nr.mono (fun b u hb e => s.keep b u e (h.fr b (List.mem_cons_of_mem _ hb)).2.2) s.ext⟩
  obtain ⟨f1, f2, f3⟩ := h.fr x hx
  obtain ⟨u, hu⟩ := h.old x hx
  exact ⟨stp_none s f1 hu, f2, f3⟩
end
section
variable {X : Cx} {x y : Str} {c ix0 ix1 e1 iter : Expr} {el : List Expr} {τ : ATx} {ι δ : AOx} {pos px px2 px3 p0 p1 p2 p3 p4 p5 p6 apos lp : Pos}
theorem atI_last {α : Type} (xs : List α) (x : α) : atI (xs ++ [x]) (-1) = some x := by
  unfold atI ixN
  rw [if_neg (by decide), if_pos (by rw [List.length_append, List.length_singleton]; omega), List.length_append, List.length_singleton]
  have e : (-1 + ((xs.length + 1 : Nat) : Int)).toNat = xs.length := by omega
  rw [e]
  simp
theorem NR.sub {K : KW} {H F F' : Hp} (hF : Sub F F') {bs : List Addr} {rows : List (DD × Int)} (h : NR K H F bs rows) : NR K H F' bs rows := h.mono (fun _ _ _ e => e) hF
end
end Ab
namespace Lx
open PySem PySem.Spec PyProof.Rows L2 Ab
def NV (s : Sl) : Prop := s = .un ∨ ∃ d, s = .va d
theorem nv_va {d : DD} : NV (.va d) := .inr ⟨d, rfl⟩
theorem no4 {ns : List Int} {c0 r0 : DD} {φ : LnT} {d5 d6 : List DD} {x7 x8 x9 x10 : Sl} (h7 : NV x7) (h8 : NV x8) (h9 : NV x9) (h10 : NV x10) : noLn [.sc ns, .tw, .va c0, .va r0, .ln φ, .ow d5, .ow d6, x7, x8, x9, x10, .un] 4 = true := by
  rcases h7 with rfl | ⟨_, rfl⟩ <;> rcases h8 with rfl | ⟨_, rfl⟩ <;> rcases h9 with rfl | ⟨_, rfl⟩ <;> rcases h10 with rfl | ⟨_, rfl⟩ <;> rfl
def topS (i : Nat) : Stmt := PySem.Challenge.pw_lightrules_k25_whole_histories.main.body.getD i (.Pass ⟨0, 0, 0, 0⟩)
def subS : Stmt → Nat → Stmt
  | .ClassDef _ _ _ b _ _ _ _ _ _ _, i => b.getD i (.Pass ⟨0, 0, 0, 0⟩)
  | s, _ => s
abbrev s_is_number : Stmt := topS 12
theorem sc_is_number : FnScope ["candidate", "least", "most"] ["candidate", "least", "most"] (defScope s_is_number) := ⟨rfl, rfl, rfl, by decide +kernel, rfl, by decide +kernel, by decide +kernel⟩
abbrev s_is_crossing : Stmt := topS 13
theorem sc_is_crossing : FnScope ["candidate", "room", "pause"] ["candidate"] (defScope s_is_crossing) := ⟨rfl, rfl, rfl, by decide +kernel, rfl, by decide +kernel, by decide +kernel⟩
abbrev s_check_crossing : Stmt := topS 16
theorem sc_check_crossing : FnScope ["crossing"] ["crossing"] (defScope s_check_crossing) := ⟨rfl, rfl, rfl, by decide +kernel, rfl, by decide +kernel, by decide +kernel⟩
abbrev s_is_rule : Stmt := topS 14
theorem sc_is_rule : FnScope ["candidate", "word", "numbers", "number"] ["candidate"] (defScope s_is_rule) := ⟨rfl, rfl, rfl, by decide +kernel, rfl, by decide +kernel, by decide +kernel⟩
abbrev s_check_rule : Stmt := topS 17
theorem sc_check_rule : FnScope ["rule"] ["rule"] (defScope s_check_rule) := ⟨rfl, rfl, rfl, by decide +kernel, rfl, by decide +kernel, by decide +kernel⟩
abbrev s_Desk___init__ : Stmt := subS (topS 30) 0
theorem sc_Desk___init__ : FnScope ["self", "crossing", "rule"] ["self", "crossing", "rule"] (defScope s_Desk___init__) := ⟨rfl, rfl, rfl, by decide +kernel, rfl, by decide +kernel, by decide +kernel⟩
abbrev s_Desk___eq__ : Stmt := subS (topS 30) 1
theorem sc_Desk___eq__ : FnScope ["self", "other"] ["self", "other"] (defScope s_Desk___eq__) := ⟨rfl, rfl, rfl, by decide +kernel, rfl, by decide +kernel, by decide +kernel⟩
abbrev s_Desk_comings : Stmt := subS (topS 30) 4
theorem sc_Desk_comings : FnScope ["self"] ["self"] (defScope s_Desk_comings) := ⟨rfl, rfl, rfl, by decide +kernel, rfl, by decide +kernel, by decide +kernel⟩
abbrev s_are_comings : Stmt := topS 15
theorem sc_are_comings : FnScope ["candidate", "coming"] ["candidate"] (defScope s_are_comings) := ⟨rfl, rfl, rfl, by decide +kernel, rfl, by decide +kernel, by decide +kernel⟩
abbrev s_check_comings : Stmt := topS 18
theorem sc_check_comings : FnScope ["comings"] ["comings"] (defScope s_check_comings) := ⟨rfl, rfl, rfl, by decide +kernel, rfl, by decide +kernel, by decide +kernel⟩
abbrev s_first_state : Stmt := topS 21
theorem sc_first_state : FnScope [] [] (defScope s_first_state) := ⟨rfl, rfl, rfl, by decide +kernel, rfl, by decide +kernel, by decide +kernel⟩
abbrev s__join : Stmt := topS 23
theorem sc__join : FnScope ["room", "lines", "coming", "wanted", "joined"] ["room", "lines", "coming"] (defScope s__join) := ⟨rfl, rfl, rfl, by decide +kernel, rfl, by decide +kernel, by decide +kernel⟩
abbrev s__leave : Stmt := topS 24
theorem sc__leave : FnScope ["lines", "light"] ["lines", "light"] (defScope s__leave) := ⟨rfl, rfl, rfl, by decide +kernel, rfl, by decide +kernel, by decide +kernel⟩
abbrev s__changes : Stmt := topS 25
theorem sc__changes : FnScope ["rule", "road", "age", "rest", "wait", "lines", "word", "own", "other"] ["rule", "road", "age", "rest", "wait", "lines"] (defScope s__changes) := ⟨rfl, rfl, rfl, by decide +kernel, rfl, by decide +kernel, by decide +kernel⟩
abbrev s_play_tick : Stmt := topS 22
theorem sc_play_tick : FnScope ["crossing", "rule", "state", "coming", "room", "pause", "road", "unasked", "age", "rest", "wait", "lines", "lost", "light", "passed"] ["crossing", "rule", "state", "coming"] (defScope s_play_tick) := ⟨rfl, rfl, rfl, by decide +kernel, rfl, by decide +kernel, by decide +kernel⟩
abbrev s__ticks_along : Stmt := topS 26
theorem sc__ticks_along : FnScope ["crossing", "rule", "comings", "state", "ticks", "coming", "light", "passed", "lost", "lines"] ["crossing", "rule", "comings"] (defScope s__ticks_along) := ⟨rfl, rfl, rfl, by decide +kernel, rfl, by decide +kernel, by decide +kernel⟩
abbrev s_lights_along : Stmt := topS 27
theorem sc_lights_along : FnScope ["crossing", "rule", "comings", "tick"] ["crossing", "rule", "comings"] (defScope s_lights_along) := ⟨rfl, rfl, rfl, by decide +kernel, rfl, by decide +kernel, by decide +kernel⟩
abbrev s_Desk_lights : Stmt := subS (topS 30) 5
theorem sc_Desk_lights : FnScope ["self"] ["self"] (defScope s_Desk_lights) := ⟨rfl, rfl, rfl, by decide +kernel, rfl, by decide +kernel, by decide +kernel⟩
abbrev s_check_coming : Stmt := topS 19
theorem sc_check_coming : FnScope ["coming"] ["coming"] (defScope s_check_coming) := ⟨rfl, rfl, rfl, by decide +kernel, rfl, by decide +kernel, by decide +kernel⟩
abbrev s_Desk_tick : Stmt := subS (topS 30) 3
theorem sc_Desk_tick : FnScope ["self", "coming"] ["self", "coming"] (defScope s_Desk_tick) := ⟨rfl, rfl, rfl, by decide +kernel, rfl, by decide +kernel, by decide +kernel⟩
abbrev s_Desk_undo : Stmt := subS (topS 30) 8
theorem sc_Desk_undo : FnScope ["self", "coming"] ["self"] (defScope s_Desk_undo) := ⟨rfl, rfl, rfl, by decide +kernel, rfl, by decide +kernel, by decide +kernel⟩
abbrev s_Desk_redo : Stmt := subS (topS 30) 9
theorem sc_Desk_redo : FnScope ["self", "coming"] ["self"] (defScope s_Desk_redo) := ⟨rfl, rfl, rfl, by decide +kernel, rfl, by decide +kernel, by decide +kernel⟩
abbrev s_Desk_copy : Stmt := subS (topS 30) 10
theorem sc_Desk_copy : FnScope ["self", "desk"] ["self"] (defScope s_Desk_copy) := ⟨rfl, rfl, rfl, by decide +kernel, rfl, by decide +kernel, by decide +kernel⟩
abbrev s__law_draw : Stmt := topS 32
theorem sc__law_draw : FnScope ["_law_script", "_law_town", "_law_many", "_law_one", "_law_at", "_law_mixed"] ["_law_script", "_law_town", "_law_many"] (defScope s__law_draw) := ⟨rfl, rfl, rfl, by decide +kernel, rfl, by decide +kernel, by decide +kernel⟩
abbrev s__law_crossing : Stmt := topS 34
theorem sc__law_crossing : FnScope ["_law_script", "_law_town"] ["_law_script", "_law_town"] (defScope s__law_crossing) := ⟨rfl, rfl, rfl, by decide +kernel, rfl, by decide +kernel, by decide +kernel⟩
abbrev s__law_pick : Stmt := topS 33
theorem sc__law_pick : FnScope ["_law_script", "_law_town", "_law_some"] ["_law_script", "_law_town", "_law_some"] (defScope s__law_pick) := ⟨rfl, rfl, rfl, by decide +kernel, rfl, by decide +kernel, by decide +kernel⟩
abbrev s__law_rule : Stmt := topS 35
theorem sc__law_rule : FnScope ["_law_script", "_law_town", "_law_word", "_law_numbers"] ["_law_script", "_law_town"] (defScope s__law_rule) := ⟨rfl, rfl, rfl, by decide +kernel, rfl, by decide +kernel, by decide +kernel⟩
abbrev s__law_back : Stmt := topS 38
theorem sc__law_back : FnScope ["_law_desk", "_law_is_undo", "error"] ["_law_desk", "_law_is_undo"] (defScope s__law_back) := ⟨rfl, rfl, rfl, by decide +kernel, rfl, by decide +kernel, by decide +kernel⟩
abbrev s__law_copied : Stmt := topS 39
theorem sc__law_copied : FnScope ["_law_desk", "_law_done", "_law_other"] ["_law_desk", "_law_done"] (defScope s__law_copied) := ⟨rfl, rfl, rfl, by decide +kernel, rfl, by decide +kernel, by decide +kernel⟩
abbrev s_law : Stmt := topS 40
theorem sc_law : FnScope ["_law_script", "_law_town", "_law_crossing_here", "_law_rule_here", "_law_desk", "_law_done", "_law_undone", "_law_turn", "_law_act", "_law_coming", "_law_told", "_law_other"] ["_law_script"] (defScope s_law) := ⟨rfl, rfl, rfl, by decide +kernel, rfl, by decide +kernel, by decide +kernel⟩
variable {P : Program} {w : World} {K : PySem.W.Frag} {mg : Str → Option Value} {base : Heap} {k : Nat}
variable {C_LightError C_NothingToUndo : Addr}
theorem t_is_number {f : Addr} {fd : FuncData}  (z_isinstance : mg "isinstance" = none) (z_bool : mg "bool" = none) (z_int : mg "int" = none) (F : Fun K "is_number" "is_number" s_is_number f fd) (gm : mg "is_number" = some (.ref f)) (hb : Binds K fd ["candidate", "least", "most"] []) : Cl P w K mg base (k + 1) "is_number" 3 Lr.W_is_number := by
  have nd := sc_is_number.nd
  refine def_ok (N := ["candidate", "least", "most"]) (ps := ["candidate", "least", "most"]) [] F sc_is_number gm hb ⟨_, fun cdv A outer s H E hr => have hu := hr.units; have hu2 := units65 hr
    (jss_cons (js_if (JW.t (jw_or (jt_not (jt_val (j_isi "int" (.inl rfl) z_isinstance (by decide +kernel) z_int (by decide +kernel) (jv 0)))) (jw_or1 (jt_val (j_isi "bool" (.inr (.inl rfl)) z_isinstance (by decide +kernel) z_bool (by decide +kernel) (jv 0)))))) (jss_one (js_ret j_bl)) jss_nil)
  (jss_one (js_ret (j_chain op_le sr_bl op_le sr_bl (jv 1) (jv 0) (jv 2))))), fun as Q hl hW => ?_⟩
  obtain ⟨d, lo, hi, rfl, q⟩ := hW
  cases d with
  | int i =>
    simp only [List.map_cons, List.map_nil, aSeq, aLc, iL, iT, iR1, iE, iZ, aSlT, aSlL, aNoP, aPt, wipeE, aIfS, aT, aB, aBO, aC, aSet, aRet, aTup, aLst, aO, dCons, dNil, aCB, aCBO, aOr, aAnd, aNot, aIf, aAndV, aOrV, aNotV, aSkip, aAsg, aAug, ex_vaint, tgN, aCall, gConsA, gNilA, gScA, gTownA, aPar2, aPar3, aV_eq, dI_i, dIC_i, dIx_t, dIx_l, dMin2_i, dMax2_i, dSumT_2, dLen_l, dLen_t, dEq_i, dNe_i, dEq_ni, dEq_in, dIs_i, dIs_n, dIsn_i, dIsn_n, dCat_l, dCatT_t, dListO_l, dListO_t, dTupleO_l, dTupleO_t, tgs2, tgs0, tgt, ite_t, ite_f, ex_l1i, ex_l1l, ex_l2l, ex_l1, ex_l2, ex_l3, ex_int, ex_bool, ex_some, ex_va, ex_ow, ex_sc, ex_list, ex_tuple, at0, at1, at2, at3, ln0, ln1, ln2, ln3, ln4, ln5, ln6, List.cons_append, List.nil_append, List.getElem?_cons_zero, List.getElem?_cons_succ, List.set_cons_zero, List.set_cons_succ, List.length_cons, List.length_nil, true_and, and_true, true_implies, forall_const, Bool.true_eq_false, Bool.false_eq_true, false_implies, decide_eq_true_eq, decide_eq_false_iff_not, Int.sub_self, Int.sub_zero, Int.reduceSub, Int.reduceAdd, Int.reduceNeg, Int.reduceEq, Int.reduceLT, Int.reduceLE, Int.reduceNe, if_true, if_false, reduceIte, decide_true, decide_false, decide_not, Bool.not_true, Bool.not_false, Bool.not_eq_true, Bool.not_eq_false, aChain, aIsi, Lr.isNum, show isiD "int" (.int i) = true from rfl, show isiD "bool" (.int i) = false from rfl] at q ⊢
    refine ⟨fun h => ?_, fun h => ?_⟩
    · simpa [h] using q
    · simpa [h] using q
  | bool b =>
    simp only [List.map_cons, List.map_nil, aSeq, aLc, iL, iT, iR1, iE, iZ, aSlT, aSlL, aNoP, aPt, wipeE, aIfS, aT, aB, aBO, aC, aSet, aRet, aTup, aLst, aO, dCons, dNil, aCB, aCBO, aOr, aAnd, aNot, aIf, aAndV, aOrV, aNotV, aSkip, aAsg, aAug, ex_vaint, tgN, aCall, gConsA, gNilA, gScA, gTownA, aPar2, aPar3, aV_eq, dI_i, dIC_i, dIx_t, dIx_l, dMin2_i, dMax2_i, dSumT_2, dLen_l, dLen_t, dEq_i, dNe_i, dEq_ni, dEq_in, dIs_i, dIs_n, dIsn_i, dIsn_n, dCat_l, dCatT_t, dListO_l, dListO_t, dTupleO_l, dTupleO_t, tgs2, tgs0, tgt, ite_t, ite_f, ex_l1i, ex_l1l, ex_l2l, ex_l1, ex_l2, ex_l3, ex_int, ex_bool, ex_some, ex_va, ex_ow, ex_sc, ex_list, ex_tuple, at0, at1, at2, at3, ln0, ln1, ln2, ln3, ln4, ln5, ln6, List.cons_append, List.nil_append, List.getElem?_cons_zero, List.getElem?_cons_succ, List.set_cons_zero, List.set_cons_succ, List.length_cons, List.length_nil, true_and, and_true, true_implies, forall_const, Bool.true_eq_false, Bool.false_eq_true, false_implies, decide_eq_true_eq, decide_eq_false_iff_not, Int.sub_self, Int.sub_zero, Int.reduceSub, Int.reduceAdd, Int.reduceNeg, Int.reduceEq, Int.reduceLT, Int.reduceLE, Int.reduceNe, if_true, if_false, reduceIte, decide_true, decide_false, decide_not, Bool.not_true, Bool.not_false, Bool.not_eq_true, Bool.not_eq_false, aIsi, Lr.isNum, show isiD "int" (.bool b) = true from rfl, show isiD "bool" (.bool b) = true from rfl] at q ⊢
    exact q
  | none =>
    simp only [List.map_cons, List.map_nil, aSeq, aLc, iL, iT, iR1, iE, iZ, aSlT, aSlL, aNoP, aPt, wipeE, aIfS, aT, aB, aBO, aC, aSet, aRet, aTup, aLst, aO, dCons, dNil, aCB, aCBO, aOr, aAnd, aNot, aIf, aAndV, aOrV, aNotV, aSkip, aAsg, aAug, ex_vaint, tgN, aCall, gConsA, gNilA, gScA, gTownA, aPar2, aPar3, aV_eq, dI_i, dIC_i, dIx_t, dIx_l, dMin2_i, dMax2_i, dSumT_2, dLen_l, dLen_t, dEq_i, dNe_i, dEq_ni, dEq_in, dIs_i, dIs_n, dIsn_i, dIsn_n, dCat_l, dCatT_t, dListO_l, dListO_t, dTupleO_l, dTupleO_t, tgs2, tgs0, tgt, ite_t, ite_f, ex_l1i, ex_l1l, ex_l2l, ex_l1, ex_l2, ex_l3, ex_int, ex_bool, ex_some, ex_va, ex_ow, ex_sc, ex_list, ex_tuple, at0, at1, at2, at3, ln0, ln1, ln2, ln3, ln4, ln5, ln6, List.cons_append, List.nil_append, List.getElem?_cons_zero, List.getElem?_cons_succ, List.set_cons_zero, List.set_cons_succ, List.length_cons, List.length_nil, true_and, and_true, true_implies, forall_const, Bool.true_eq_false, Bool.false_eq_true, false_implies, decide_eq_true_eq, decide_eq_false_iff_not, Int.sub_self, Int.sub_zero, Int.reduceSub, Int.reduceAdd, Int.reduceNeg, Int.reduceEq, Int.reduceLT, Int.reduceLE, Int.reduceNe, if_true, if_false, reduceIte, decide_true, decide_false, decide_not, Bool.not_true, Bool.not_false, Bool.not_eq_true, Bool.not_eq_false, aIsi, Lr.isNum, show isiD "int" .none = false from rfl] at q ⊢
    exact q
  | str x =>
    simp only [List.map_cons, List.map_nil, aSeq, aLc, iL, iT, iR1, iE, iZ, aSlT, aSlL, aNoP, aPt, wipeE, aIfS, aT, aB, aBO, aC, aSet, aRet, aTup, aLst, aO, dCons, dNil, aCB, aCBO, aOr, aAnd, aNot, aIf, aAndV, aOrV, aNotV, aSkip, aAsg, aAug, ex_vaint, tgN, aCall, gConsA, gNilA, gScA, gTownA, aPar2, aPar3, aV_eq, dI_i, dIC_i, dIx_t, dIx_l, dMin2_i, dMax2_i, dSumT_2, dLen_l, dLen_t, dEq_i, dNe_i, dEq_ni, dEq_in, dIs_i, dIs_n, dIsn_i, dIsn_n, dCat_l, dCatT_t, dListO_l, dListO_t, dTupleO_l, dTupleO_t, tgs2, tgs0, tgt, ite_t, ite_f, ex_l1i, ex_l1l, ex_l2l, ex_l1, ex_l2, ex_l3, ex_int, ex_bool, ex_some, ex_va, ex_ow, ex_sc, ex_list, ex_tuple, at0, at1, at2, at3, ln0, ln1, ln2, ln3, ln4, ln5, ln6, List.cons_append, List.nil_append, List.getElem?_cons_zero, List.getElem?_cons_succ, List.set_cons_zero, List.set_cons_succ, List.length_cons, List.length_nil, true_and, and_true, true_implies, forall_const, Bool.true_eq_false, Bool.false_eq_true, false_implies, decide_eq_true_eq, decide_eq_false_iff_not, Int.sub_self, Int.sub_zero, Int.reduceSub, Int.reduceAdd, Int.reduceNeg, Int.reduceEq, Int.reduceLT, Int.reduceLE, Int.reduceNe, if_true, if_false, reduceIte, decide_true, decide_false, decide_not, Bool.not_true, Bool.not_false, Bool.not_eq_true, Bool.not_eq_false, aIsi, Lr.isNum, show isiD "int" (.str x) = false from rfl] at q ⊢
    exact q
  | list x =>
    simp only [List.map_cons, List.map_nil, aSeq, aLc, iL, iT, iR1, iE, iZ, aSlT, aSlL, aNoP, aPt, wipeE, aIfS, aT, aB, aBO, aC, aSet, aRet, aTup, aLst, aO, dCons, dNil, aCB, aCBO, aOr, aAnd, aNot, aIf, aAndV, aOrV, aNotV, aSkip, aAsg, aAug, ex_vaint, tgN, aCall, gConsA, gNilA, gScA, gTownA, aPar2, aPar3, aV_eq, dI_i, dIC_i, dIx_t, dIx_l, dMin2_i, dMax2_i, dSumT_2, dLen_l, dLen_t, dEq_i, dNe_i, dEq_ni, dEq_in, dIs_i, dIs_n, dIsn_i, dIsn_n, dCat_l, dCatT_t, dListO_l, dListO_t, dTupleO_l, dTupleO_t, tgs2, tgs0, tgt, ite_t, ite_f, ex_l1i, ex_l1l, ex_l2l, ex_l1, ex_l2, ex_l3, ex_int, ex_bool, ex_some, ex_va, ex_ow, ex_sc, ex_list, ex_tuple, at0, at1, at2, at3, ln0, ln1, ln2, ln3, ln4, ln5, ln6, List.cons_append, List.nil_append, List.getElem?_cons_zero, List.getElem?_cons_succ, List.set_cons_zero, List.set_cons_succ, List.length_cons, List.length_nil, true_and, and_true, true_implies, forall_const, Bool.true_eq_false, Bool.false_eq_true, false_implies, decide_eq_true_eq, decide_eq_false_iff_not, Int.sub_self, Int.sub_zero, Int.reduceSub, Int.reduceAdd, Int.reduceNeg, Int.reduceEq, Int.reduceLT, Int.reduceLE, Int.reduceNe, if_true, if_false, reduceIte, decide_true, decide_false, decide_not, Bool.not_true, Bool.not_false, Bool.not_eq_true, Bool.not_eq_false, aIsi, Lr.isNum, show isiD "int" (.list x) = false from rfl] at q ⊢
    exact q
  | tuple x =>
    simp only [List.map_cons, List.map_nil, aSeq, aLc, iL, iT, iR1, iE, iZ, aSlT, aSlL, aNoP, aPt, wipeE, aIfS, aT, aB, aBO, aC, aSet, aRet, aTup, aLst, aO, dCons, dNil, aCB, aCBO, aOr, aAnd, aNot, aIf, aAndV, aOrV, aNotV, aSkip, aAsg, aAug, ex_vaint, tgN, aCall, gConsA, gNilA, gScA, gTownA, aPar2, aPar3, aV_eq, dI_i, dIC_i, dIx_t, dIx_l, dMin2_i, dMax2_i, dSumT_2, dLen_l, dLen_t, dEq_i, dNe_i, dEq_ni, dEq_in, dIs_i, dIs_n, dIsn_i, dIsn_n, dCat_l, dCatT_t, dListO_l, dListO_t, dTupleO_l, dTupleO_t, tgs2, tgs0, tgt, ite_t, ite_f, ex_l1i, ex_l1l, ex_l2l, ex_l1, ex_l2, ex_l3, ex_int, ex_bool, ex_some, ex_va, ex_ow, ex_sc, ex_list, ex_tuple, at0, at1, at2, at3, ln0, ln1, ln2, ln3, ln4, ln5, ln6, List.cons_append, List.nil_append, List.getElem?_cons_zero, List.getElem?_cons_succ, List.set_cons_zero, List.set_cons_succ, List.length_cons, List.length_nil, true_and, and_true, true_implies, forall_const, Bool.true_eq_false, Bool.false_eq_true, false_implies, decide_eq_true_eq, decide_eq_false_iff_not, Int.sub_self, Int.sub_zero, Int.reduceSub, Int.reduceAdd, Int.reduceNeg, Int.reduceEq, Int.reduceLT, Int.reduceLE, Int.reduceNe, if_true, if_false, reduceIte, decide_true, decide_false, decide_not, Bool.not_true, Bool.not_false, Bool.not_eq_true, Bool.not_eq_false, aIsi, Lr.isNum, show isiD "int" (.tuple x) = false from rfl] at q ⊢
    exact q
  | dict x =>
    simp only [List.map_cons, List.map_nil, aSeq, aLc, iL, iT, iR1, iE, iZ, aSlT, aSlL, aNoP, aPt, wipeE, aIfS, aT, aB, aBO, aC, aSet, aRet, aTup, aLst, aO, dCons, dNil, aCB, aCBO, aOr, aAnd, aNot, aIf, aAndV, aOrV, aNotV, aSkip, aAsg, aAug, ex_vaint, tgN, aCall, gConsA, gNilA, gScA, gTownA, aPar2, aPar3, aV_eq, dI_i, dIC_i, dIx_t, dIx_l, dMin2_i, dMax2_i, dSumT_2, dLen_l, dLen_t, dEq_i, dNe_i, dEq_ni, dEq_in, dIs_i, dIs_n, dIsn_i, dIsn_n, dCat_l, dCatT_t, dListO_l, dListO_t, dTupleO_l, dTupleO_t, tgs2, tgs0, tgt, ite_t, ite_f, ex_l1i, ex_l1l, ex_l2l, ex_l1, ex_l2, ex_l3, ex_int, ex_bool, ex_some, ex_va, ex_ow, ex_sc, ex_list, ex_tuple, at0, at1, at2, at3, ln0, ln1, ln2, ln3, ln4, ln5, ln6, List.cons_append, List.nil_append, List.getElem?_cons_zero, List.getElem?_cons_succ, List.set_cons_zero, List.set_cons_succ, List.length_cons, List.length_nil, true_and, and_true, true_implies, forall_const, Bool.true_eq_false, Bool.false_eq_true, false_implies, decide_eq_true_eq, decide_eq_false_iff_not, Int.sub_self, Int.sub_zero, Int.reduceSub, Int.reduceAdd, Int.reduceNeg, Int.reduceEq, Int.reduceLT, Int.reduceLE, Int.reduceNe, if_true, if_false, reduceIte, decide_true, decide_false, decide_not, Bool.not_true, Bool.not_false, Bool.not_eq_true, Bool.not_eq_false, aIsi, Lr.isNum, show isiD "int" (.dict x) = false from rfl] at q ⊢
    exact q
theorem t_is_crossing {f : Addr} {fd : FuncData} (c_is_number : Cl P w K mg base k "is_number" 3 Lr.W_is_number) (z_len : mg "len" = none) (z_isinstance : mg "isinstance" = none) (z_tuple : mg "tuple" = none) (F : Fun K "is_crossing" "is_crossing" s_is_crossing f fd) (gm : mg "is_crossing" = some (.ref f)) (hb : Binds K fd ["candidate"] []) : Cl P w K mg base (k + 1) "is_crossing" 1 Lr.W_is_crossing := by
  have nd := sc_is_crossing.nd
  refine def_ok (N := ["candidate", "room", "pause"]) (ps := ["candidate"]) [Sl.un, Sl.un] F sc_is_crossing gm hb ⟨_, fun cdv A outer s H E hr => have hu := hr.units; have hu2 := units65 hr
    (jss_cons (js_if (JW.t (jw_or (jt_not (jt_val (j_isi "tuple" (.inr (.inr (.inr (.inr rfl)))) z_isinstance (by decide +kernel) z_tuple (by decide +kernel) (jv 0)))) (jw_or1 (jt_ne hu (j_bi call_len_seq sc_len z_len PySem.boot_len (jd_cons (jv 0) jd_nil)) j_int)))) (jss_one (js_ret j_bl)) jss_nil)
  (jss_cons (js_asg (jv 0) (jg_tup (n := 2) rfl (jgs_cons (jg_name 1 nd) (jgs_cons (jg_name 2 nd) jgs_nil))))
  (jss_one (js_ret (je_and (j_call c_is_number hr (ja_cons (jv 1) (ja_cons j_int (ja_cons j_int ja_nil)))) (je_one (j_call c_is_number hr (ja_cons (jv 2) (ja_cons j_int (ja_cons j_int ja_nil)))))))))), fun as Q hl hW => ?_⟩
  obtain ⟨d, rfl, hd, q⟩ := hW
  match d, hd, q with
  | .tuple xs, hd, q =>
    have hx := hd xs rfl
    match xs, q with
    | [a, b], q =>
      simp only [List.map_cons, List.map_nil, aSeq, aLc, iL, iT, iR1, iE, iZ, aSlT, aSlL, aNoP, aPt, wipeE, aIfS, aT, aB, aBO, aC, aSet, aRet, aTup, aLst, aO, dCons, dNil, aCB, aCBO, aOr, aAnd, aNot, aIf, aAndV, aOrV, aNotV, aSkip, aAsg, aAug, ex_vaint, tgN, aCall, gConsA, gNilA, gScA, gTownA, aPar2, aPar3, aV_eq, dI_i, dIC_i, dIx_t, dIx_l, dMin2_i, dMax2_i, dSumT_2, dLen_l, dLen_t, dEq_i, dNe_i, dEq_ni, dEq_in, dIs_i, dIs_n, dIsn_i, dIsn_n, dCat_l, dCatT_t, dListO_l, dListO_t, dTupleO_l, dTupleO_t, tgs2, tgs0, tgt, ite_t, ite_f, ex_l1i, ex_l1l, ex_l2l, ex_l1, ex_l2, ex_l3, ex_int, ex_bool, ex_some, ex_va, ex_ow, ex_sc, ex_list, ex_tuple, at0, at1, at2, at3, ln0, ln1, ln2, ln3, ln4, ln5, ln6, List.cons_append, List.nil_append, List.getElem?_cons_zero, List.getElem?_cons_succ, List.set_cons_zero, List.set_cons_succ, List.length_cons, List.length_nil, true_and, and_true, true_implies, forall_const, Bool.true_eq_false, Bool.false_eq_true, false_implies, decide_eq_true_eq, decide_eq_false_iff_not, Int.sub_self, Int.sub_zero, Int.reduceSub, Int.reduceAdd, Int.reduceNeg, Int.reduceEq, Int.reduceLT, Int.reduceLE, Int.reduceNe, if_true, if_false, reduceIte, decide_true, decide_false, decide_not, Bool.not_true, Bool.not_false, Bool.not_eq_true, Bool.not_eq_false, aIsi, show isiD "tuple" (.tuple [a, b]) = true from rfl, Lr.isCr, Lr.W_is_number_i] at q ⊢
      have e0 : (((0 : Nat) + 1 + 1 : Nat) : Int) = 2 := rfl
      simp only [e0, List.map_cons, List.map_nil, aSeq, aLc, iL, iT, iR1, iE, iZ, aSlT, aSlL, aNoP, aPt, wipeE, aIfS, aT, aB, aBO, aC, aSet, aRet, aTup, aLst, aO, dCons, dNil, aCB, aCBO, aOr, aAnd, aNot, aIf, aAndV, aOrV, aNotV, aSkip, aAsg, aAug, ex_vaint, tgN, aCall, gConsA, gNilA, gScA, gTownA, aPar2, aPar3, aV_eq, dI_i, dIC_i, dIx_t, dIx_l, dMin2_i, dMax2_i, dSumT_2, dLen_l, dLen_t, dEq_i, dNe_i, dEq_ni, dEq_in, dIs_i, dIs_n, dIsn_i, dIsn_n, dCat_l, dCatT_t, dListO_l, dListO_t, dTupleO_l, dTupleO_t, tgs2, tgs0, tgt, ite_t, ite_f, ex_l1i, ex_l1l, ex_l2l, ex_l1, ex_l2, ex_l3, ex_int, ex_bool, ex_some, ex_va, ex_ow, ex_sc, ex_list, ex_tuple, at0, at1, at2, at3, ln0, ln1, ln2, ln3, ln4, ln5, ln6, List.cons_append, List.nil_append, List.getElem?_cons_zero, List.getElem?_cons_succ, List.set_cons_zero, List.set_cons_succ, List.length_cons, List.length_nil, true_and, and_true, true_implies, forall_const, Bool.true_eq_false, Bool.false_eq_true, false_implies, decide_eq_true_eq, decide_eq_false_iff_not, Int.sub_self, Int.sub_zero, Int.reduceSub, Int.reduceAdd, Int.reduceNeg, Int.reduceEq, Int.reduceLT, Int.reduceLE, Int.reduceNe, if_true, if_false, reduceIte, decide_true, decide_false, decide_not, Bool.not_true, Bool.not_false, Bool.not_eq_true, Bool.not_eq_false, Lr.W_is_number_i]
      refine ⟨fun h => ?_, fun h => ?_⟩
      · simpa [h] using q
      · simpa [h] using q
    | [], q =>
      simp only [List.map_cons, List.map_nil, aSeq, aLc, iL, iT, iR1, iE, iZ, aSlT, aSlL, aNoP, aPt, wipeE, aIfS, aT, aB, aBO, aC, aSet, aRet, aTup, aLst, aO, dCons, dNil, aCB, aCBO, aOr, aAnd, aNot, aIf, aAndV, aOrV, aNotV, aSkip, aAsg, aAug, ex_vaint, tgN, aCall, gConsA, gNilA, gScA, gTownA, aPar2, aPar3, aV_eq, dI_i, dIC_i, dIx_t, dIx_l, dMin2_i, dMax2_i, dSumT_2, dLen_l, dLen_t, dEq_i, dNe_i, dEq_ni, dEq_in, dIs_i, dIs_n, dIsn_i, dIsn_n, dCat_l, dCatT_t, dListO_l, dListO_t, dTupleO_l, dTupleO_t, tgs2, tgs0, tgt, ite_t, ite_f, ex_l1i, ex_l1l, ex_l2l, ex_l1, ex_l2, ex_l3, ex_int, ex_bool, ex_some, ex_va, ex_ow, ex_sc, ex_list, ex_tuple, at0, at1, at2, at3, ln0, ln1, ln2, ln3, ln4, ln5, ln6, List.cons_append, List.nil_append, List.getElem?_cons_zero, List.getElem?_cons_succ, List.set_cons_zero, List.set_cons_succ, List.length_cons, List.length_nil, true_and, and_true, true_implies, forall_const, Bool.true_eq_false, Bool.false_eq_true, false_implies, decide_eq_true_eq, decide_eq_false_iff_not, Int.sub_self, Int.sub_zero, Int.reduceSub, Int.reduceAdd, Int.reduceNeg, Int.reduceEq, Int.reduceLT, Int.reduceLE, Int.reduceNe, if_true, if_false, reduceIte, decide_true, decide_false, decide_not, Bool.not_true, Bool.not_false, Bool.not_eq_true, Bool.not_eq_false, aIsi, show isiD "tuple" (.tuple []) = true from rfl, Lr.isCr] at q ⊢
      (repeat' (first | exact q | (apply And.intro) | (intro _))) <;> (exfalso; simp_all; done)
    | [a], q =>
      simp only [List.map_cons, List.map_nil, aSeq, aLc, iL, iT, iR1, iE, iZ, aSlT, aSlL, aNoP, aPt, wipeE, aIfS, aT, aB, aBO, aC, aSet, aRet, aTup, aLst, aO, dCons, dNil, aCB, aCBO, aOr, aAnd, aNot, aIf, aAndV, aOrV, aNotV, aSkip, aAsg, aAug, ex_vaint, tgN, aCall, gConsA, gNilA, gScA, gTownA, aPar2, aPar3, aV_eq, dI_i, dIC_i, dIx_t, dIx_l, dMin2_i, dMax2_i, dSumT_2, dLen_l, dLen_t, dEq_i, dNe_i, dEq_ni, dEq_in, dIs_i, dIs_n, dIsn_i, dIsn_n, dCat_l, dCatT_t, dListO_l, dListO_t, dTupleO_l, dTupleO_t, tgs2, tgs0, tgt, ite_t, ite_f, ex_l1i, ex_l1l, ex_l2l, ex_l1, ex_l2, ex_l3, ex_int, ex_bool, ex_some, ex_va, ex_ow, ex_sc, ex_list, ex_tuple, at0, at1, at2, at3, ln0, ln1, ln2, ln3, ln4, ln5, ln6, List.cons_append, List.nil_append, List.getElem?_cons_zero, List.getElem?_cons_succ, List.set_cons_zero, List.set_cons_succ, List.length_cons, List.length_nil, true_and, and_true, true_implies, forall_const, Bool.true_eq_false, Bool.false_eq_true, false_implies, decide_eq_true_eq, decide_eq_false_iff_not, Int.sub_self, Int.sub_zero, Int.reduceSub, Int.reduceAdd, Int.reduceNeg, Int.reduceEq, Int.reduceLT, Int.reduceLE, Int.reduceNe, if_true, if_false, reduceIte, decide_true, decide_false, decide_not, Bool.not_true, Bool.not_false, Bool.not_eq_true, Bool.not_eq_false, aIsi, show isiD "tuple" (.tuple [a]) = true from rfl, Lr.isCr] at q ⊢
      (repeat' (first | exact q | (apply And.intro) | (intro _))) <;> (exfalso; simp_all; done)
    | a :: b :: c :: r, q =>
      have e0 : ¬ ((((r.length + 1 + 1 + 1 : Nat)) : Int) = 2) := by omega
      simp only [List.map_cons, List.map_nil, aSeq, aLc, iL, iT, iR1, iE, iZ, aSlT, aSlL, aNoP, aPt, wipeE, aIfS, aT, aB, aBO, aC, aSet, aRet, aTup, aLst, aO, dCons, dNil, aCB, aCBO, aOr, aAnd, aNot, aIf, aAndV, aOrV, aNotV, aSkip, aAsg, aAug, ex_vaint, tgN, aCall, gConsA, gNilA, gScA, gTownA, aPar2, aPar3, aV_eq, dI_i, dIC_i, dIx_t, dIx_l, dMin2_i, dMax2_i, dSumT_2, dLen_l, dLen_t, dEq_i, dNe_i, dEq_ni, dEq_in, dIs_i, dIs_n, dIsn_i, dIsn_n, dCat_l, dCatT_t, dListO_l, dListO_t, dTupleO_l, dTupleO_t, tgs2, tgs0, tgt, ite_t, ite_f, ex_l1i, ex_l1l, ex_l2l, ex_l1, ex_l2, ex_l3, ex_int, ex_bool, ex_some, ex_va, ex_ow, ex_sc, ex_list, ex_tuple, at0, at1, at2, at3, ln0, ln1, ln2, ln3, ln4, ln5, ln6, List.cons_append, List.nil_append, List.getElem?_cons_zero, List.getElem?_cons_succ, List.set_cons_zero, List.set_cons_succ, List.length_cons, List.length_nil, true_and, and_true, true_implies, forall_const, Bool.true_eq_false, Bool.false_eq_true, false_implies, decide_eq_true_eq, decide_eq_false_iff_not, Int.sub_self, Int.sub_zero, Int.reduceSub, Int.reduceAdd, Int.reduceNeg, Int.reduceEq, Int.reduceLT, Int.reduceLE, Int.reduceNe, if_true, if_false, reduceIte, decide_true, decide_false, decide_not, Bool.not_true, Bool.not_false, Bool.not_eq_true, Bool.not_eq_false, e0, aIsi, show isiD "tuple" (.tuple (a :: b :: c :: r)) = true from rfl, Lr.isCr] at q ⊢
      exact q
  | .int i, hd, q =>
    simp only [List.map_cons, List.map_nil, aSeq, aLc, iL, iT, iR1, iE, iZ, aSlT, aSlL, aNoP, aPt, wipeE, aIfS, aT, aB, aBO, aC, aSet, aRet, aTup, aLst, aO, dCons, dNil, aCB, aCBO, aOr, aAnd, aNot, aIf, aAndV, aOrV, aNotV, aSkip, aAsg, aAug, ex_vaint, tgN, aCall, gConsA, gNilA, gScA, gTownA, aPar2, aPar3, aV_eq, dI_i, dIC_i, dIx_t, dIx_l, dMin2_i, dMax2_i, dSumT_2, dLen_l, dLen_t, dEq_i, dNe_i, dEq_ni, dEq_in, dIs_i, dIs_n, dIsn_i, dIsn_n, dCat_l, dCatT_t, dListO_l, dListO_t, dTupleO_l, dTupleO_t, tgs2, tgs0, tgt, ite_t, ite_f, ex_l1i, ex_l1l, ex_l2l, ex_l1, ex_l2, ex_l3, ex_int, ex_bool, ex_some, ex_va, ex_ow, ex_sc, ex_list, ex_tuple, at0, at1, at2, at3, ln0, ln1, ln2, ln3, ln4, ln5, ln6, List.cons_append, List.nil_append, List.getElem?_cons_zero, List.getElem?_cons_succ, List.set_cons_zero, List.set_cons_succ, List.length_cons, List.length_nil, true_and, and_true, true_implies, forall_const, Bool.true_eq_false, Bool.false_eq_true, false_implies, decide_eq_true_eq, decide_eq_false_iff_not, Int.sub_self, Int.sub_zero, Int.reduceSub, Int.reduceAdd, Int.reduceNeg, Int.reduceEq, Int.reduceLT, Int.reduceLE, Int.reduceNe, if_true, if_false, reduceIte, decide_true, decide_false, decide_not, Bool.not_true, Bool.not_false, Bool.not_eq_true, Bool.not_eq_false, aIsi, show isiD "tuple" (.int i) = false from rfl, Lr.isCr] at q ⊢
    exact q
  | .bool i, hd, q =>
    simp only [List.map_cons, List.map_nil, aSeq, aLc, iL, iT, iR1, iE, iZ, aSlT, aSlL, aNoP, aPt, wipeE, aIfS, aT, aB, aBO, aC, aSet, aRet, aTup, aLst, aO, dCons, dNil, aCB, aCBO, aOr, aAnd, aNot, aIf, aAndV, aOrV, aNotV, aSkip, aAsg, aAug, ex_vaint, tgN, aCall, gConsA, gNilA, gScA, gTownA, aPar2, aPar3, aV_eq, dI_i, dIC_i, dIx_t, dIx_l, dMin2_i, dMax2_i, dSumT_2, dLen_l, dLen_t, dEq_i, dNe_i, dEq_ni, dEq_in, dIs_i, dIs_n, dIsn_i, dIsn_n, dCat_l, dCatT_t, dListO_l, dListO_t, dTupleO_l, dTupleO_t, tgs2, tgs0, tgt, ite_t, ite_f, ex_l1i, ex_l1l, ex_l2l, ex_l1, ex_l2, ex_l3, ex_int, ex_bool, ex_some, ex_va, ex_ow, ex_sc, ex_list, ex_tuple, at0, at1, at2, at3, ln0, ln1, ln2, ln3, ln4, ln5, ln6, List.cons_append, List.nil_append, List.getElem?_cons_zero, List.getElem?_cons_succ, List.set_cons_zero, List.set_cons_succ, List.length_cons, List.length_nil, true_and, and_true, true_implies, forall_const, Bool.true_eq_false, Bool.false_eq_true, false_implies, decide_eq_true_eq, decide_eq_false_iff_not, Int.sub_self, Int.sub_zero, Int.reduceSub, Int.reduceAdd, Int.reduceNeg, Int.reduceEq, Int.reduceLT, Int.reduceLE, Int.reduceNe, if_true, if_false, reduceIte, decide_true, decide_false, decide_not, Bool.not_true, Bool.not_false, Bool.not_eq_true, Bool.not_eq_false, aIsi, show isiD "tuple" (.bool i) = false from rfl, Lr.isCr] at q ⊢
    exact q
  | .none, hd, q =>
    simp only [List.map_cons, List.map_nil, aSeq, aLc, iL, iT, iR1, iE, iZ, aSlT, aSlL, aNoP, aPt, wipeE, aIfS, aT, aB, aBO, aC, aSet, aRet, aTup, aLst, aO, dCons, dNil, aCB, aCBO, aOr, aAnd, aNot, aIf, aAndV, aOrV, aNotV, aSkip, aAsg, aAug, ex_vaint, tgN, aCall, gConsA, gNilA, gScA, gTownA, aPar2, aPar3, aV_eq, dI_i, dIC_i, dIx_t, dIx_l, dMin2_i, dMax2_i, dSumT_2, dLen_l, dLen_t, dEq_i, dNe_i, dEq_ni, dEq_in, dIs_i, dIs_n, dIsn_i, dIsn_n, dCat_l, dCatT_t, dListO_l, dListO_t, dTupleO_l, dTupleO_t, tgs2, tgs0, tgt, ite_t, ite_f, ex_l1i, ex_l1l, ex_l2l, ex_l1, ex_l2, ex_l3, ex_int, ex_bool, ex_some, ex_va, ex_ow, ex_sc, ex_list, ex_tuple, at0, at1, at2, at3, ln0, ln1, ln2, ln3, ln4, ln5, ln6, List.cons_append, List.nil_append, List.getElem?_cons_zero, List.getElem?_cons_succ, List.set_cons_zero, List.set_cons_succ, List.length_cons, List.length_nil, true_and, and_true, true_implies, forall_const, Bool.true_eq_false, Bool.false_eq_true, false_implies, decide_eq_true_eq, decide_eq_false_iff_not, Int.sub_self, Int.sub_zero, Int.reduceSub, Int.reduceAdd, Int.reduceNeg, Int.reduceEq, Int.reduceLT, Int.reduceLE, Int.reduceNe, if_true, if_false, reduceIte, decide_true, decide_false, decide_not, Bool.not_true, Bool.not_false, Bool.not_eq_true, Bool.not_eq_false, aIsi, show isiD "tuple" .none = false from rfl, Lr.isCr] at q ⊢
    exact q
  | .str i, hd, q =>
    simp only [List.map_cons, List.map_nil, aSeq, aLc, iL, iT, iR1, iE, iZ, aSlT, aSlL, aNoP, aPt, wipeE, aIfS, aT, aB, aBO, aC, aSet, aRet, aTup, aLst, aO, dCons, dNil, aCB, aCBO, aOr, aAnd, aNot, aIf, aAndV, aOrV, aNotV, aSkip, aAsg, aAug, ex_vaint, tgN, aCall, gConsA, gNilA, gScA, gTownA, aPar2, aPar3, aV_eq, dI_i, dIC_i, dIx_t, dIx_l, dMin2_i, dMax2_i, dSumT_2, dLen_l, dLen_t, dEq_i, dNe_i, dEq_ni, dEq_in, dIs_i, dIs_n, dIsn_i, dIsn_n, dCat_l, dCatT_t, dListO_l, dListO_t, dTupleO_l, dTupleO_t, tgs2, tgs0, tgt, ite_t, ite_f, ex_l1i, ex_l1l, ex_l2l, ex_l1, ex_l2, ex_l3, ex_int, ex_bool, ex_some, ex_va, ex_ow, ex_sc, ex_list, ex_tuple, at0, at1, at2, at3, ln0, ln1, ln2, ln3, ln4, ln5, ln6, List.cons_append, List.nil_append, List.getElem?_cons_zero, List.getElem?_cons_succ, List.set_cons_zero, List.set_cons_succ, List.length_cons, List.length_nil, true_and, and_true, true_implies, forall_const, Bool.true_eq_false, Bool.false_eq_true, false_implies, decide_eq_true_eq, decide_eq_false_iff_not, Int.sub_self, Int.sub_zero, Int.reduceSub, Int.reduceAdd, Int.reduceNeg, Int.reduceEq, Int.reduceLT, Int.reduceLE, Int.reduceNe, if_true, if_false, reduceIte, decide_true, decide_false, decide_not, Bool.not_true, Bool.not_false, Bool.not_eq_true, Bool.not_eq_false, aIsi, show isiD "tuple" (.str i) = false from rfl, Lr.isCr] at q ⊢
    exact q
  | .list i, hd, q =>
    simp only [List.map_cons, List.map_nil, aSeq, aLc, iL, iT, iR1, iE, iZ, aSlT, aSlL, aNoP, aPt, wipeE, aIfS, aT, aB, aBO, aC, aSet, aRet, aTup, aLst, aO, dCons, dNil, aCB, aCBO, aOr, aAnd, aNot, aIf, aAndV, aOrV, aNotV, aSkip, aAsg, aAug, ex_vaint, tgN, aCall, gConsA, gNilA, gScA, gTownA, aPar2, aPar3, aV_eq, dI_i, dIC_i, dIx_t, dIx_l, dMin2_i, dMax2_i, dSumT_2, dLen_l, dLen_t, dEq_i, dNe_i, dEq_ni, dEq_in, dIs_i, dIs_n, dIsn_i, dIsn_n, dCat_l, dCatT_t, dListO_l, dListO_t, dTupleO_l, dTupleO_t, tgs2, tgs0, tgt, ite_t, ite_f, ex_l1i, ex_l1l, ex_l2l, ex_l1, ex_l2, ex_l3, ex_int, ex_bool, ex_some, ex_va, ex_ow, ex_sc, ex_list, ex_tuple, at0, at1, at2, at3, ln0, ln1, ln2, ln3, ln4, ln5, ln6, List.cons_append, List.nil_append, List.getElem?_cons_zero, List.getElem?_cons_succ, List.set_cons_zero, List.set_cons_succ, List.length_cons, List.length_nil, true_and, and_true, true_implies, forall_const, Bool.true_eq_false, Bool.false_eq_true, false_implies, decide_eq_true_eq, decide_eq_false_iff_not, Int.sub_self, Int.sub_zero, Int.reduceSub, Int.reduceAdd, Int.reduceNeg, Int.reduceEq, Int.reduceLT, Int.reduceLE, Int.reduceNe, if_true, if_false, reduceIte, decide_true, decide_false, decide_not, Bool.not_true, Bool.not_false, Bool.not_eq_true, Bool.not_eq_false, aIsi, show isiD "tuple" (.list i) = false from rfl, Lr.isCr] at q ⊢
    exact q
  | .dict i, hd, q =>
    simp only [List.map_cons, List.map_nil, aSeq, aLc, iL, iT, iR1, iE, iZ, aSlT, aSlL, aNoP, aPt, wipeE, aIfS, aT, aB, aBO, aC, aSet, aRet, aTup, aLst, aO, dCons, dNil, aCB, aCBO, aOr, aAnd, aNot, aIf, aAndV, aOrV, aNotV, aSkip, aAsg, aAug, ex_vaint, tgN, aCall, gConsA, gNilA, gScA, gTownA, aPar2, aPar3, aV_eq, dI_i, dIC_i, dIx_t, dIx_l, dMin2_i, dMax2_i, dSumT_2, dLen_l, dLen_t, dEq_i, dNe_i, dEq_ni, dEq_in, dIs_i, dIs_n, dIsn_i, dIsn_n, dCat_l, dCatT_t, dListO_l, dListO_t, dTupleO_l, dTupleO_t, tgs2, tgs0, tgt, ite_t, ite_f, ex_l1i, ex_l1l, ex_l2l, ex_l1, ex_l2, ex_l3, ex_int, ex_bool, ex_some, ex_va, ex_ow, ex_sc, ex_list, ex_tuple, at0, at1, at2, at3, ln0, ln1, ln2, ln3, ln4, ln5, ln6, List.cons_append, List.nil_append, List.getElem?_cons_zero, List.getElem?_cons_succ, List.set_cons_zero, List.set_cons_succ, List.length_cons, List.length_nil, true_and, and_true, true_implies, forall_const, Bool.true_eq_false, Bool.false_eq_true, false_implies, decide_eq_true_eq, decide_eq_false_iff_not, Int.sub_self, Int.sub_zero, Int.reduceSub, Int.reduceAdd, Int.reduceNeg, Int.reduceEq, Int.reduceLT, Int.reduceLE, Int.reduceNe, if_true, if_false, reduceIte, decide_true, decide_false, decide_not, Bool.not_true, Bool.not_false, Bool.not_eq_true, Bool.not_eq_false, aIsi, show isiD "tuple" (.dict i) = false from rfl, Lr.isCr] at q ⊢
    exact q
theorem t_check_crossing {f : Addr} {fd : FuncData} (c_is_crossing : Cl P w K mg base k "is_crossing" 1 Lr.W_is_crossing) (F : Fun K "check_crossing" "check_crossing" s_check_crossing f fd) (gm : mg "check_crossing" = some (.ref f)) (hb : Binds K fd ["crossing"] []) : Cl P w K mg base (k + 1) "check_crossing" 1 Lr.W_ck_cr := by
  have nd := sc_check_crossing.nd
  refine def_ok (N := ["crossing"]) (ps := ["crossing"]) [] F sc_check_crossing gm hb ⟨_, fun cdv A outer s H E hr => have hu := hr.units; have hu2 := units65 hr
    (jss_one (js_if (jt_not (jt_val (j_call c_is_crossing hr (ja_cons (jv 0) ja_nil)))) jss_never jss_nil)), fun as Q hl hW => ?_⟩
  obtain ⟨room, pause, rfl, hc, q⟩ := hW
  simp only [List.map_cons, List.map_nil, aSeq, aLc, iL, iT, iR1, iE, iZ, aSlT, aSlL, aNoP, aPt, wipeE, aIfS, aT, aB, aBO, aC, aSet, aRet, aTup, aLst, aO, dCons, dNil, aCB, aCBO, aOr, aAnd, aNot, aIf, aAndV, aOrV, aNotV, aSkip, aAsg, aAug, ex_vaint, tgN, aCall, gConsA, gNilA, gScA, gTownA, aPar2, aPar3, aV_eq, dI_i, dIC_i, dIx_t, dIx_l, dMin2_i, dMax2_i, dSumT_2, dLen_l, dLen_t, dEq_i, dNe_i, dEq_ni, dEq_in, dIs_i, dIs_n, dIsn_i, dIsn_n, dCat_l, dCatT_t, dListO_l, dListO_t, dTupleO_l, dTupleO_t, tgs2, tgs0, tgt, ite_t, ite_f, ex_l1i, ex_l1l, ex_l2l, ex_l1, ex_l2, ex_l3, ex_int, ex_bool, ex_some, ex_va, ex_ow, ex_sc, ex_list, ex_tuple, at0, at1, at2, at3, ln0, ln1, ln2, ln3, ln4, ln5, ln6, List.cons_append, List.nil_append, List.getElem?_cons_zero, List.getElem?_cons_succ, List.set_cons_zero, List.set_cons_succ, List.length_cons, List.length_nil, true_and, and_true, true_implies, forall_const, Bool.true_eq_false, Bool.false_eq_true, false_implies, decide_eq_true_eq, decide_eq_false_iff_not, Int.sub_self, Int.sub_zero, Int.reduceSub, Int.reduceAdd, Int.reduceNeg, Int.reduceEq, Int.reduceLT, Int.reduceLE, Int.reduceNe, if_true, if_false, reduceIte, decide_true, decide_false, decide_not, Bool.not_true, Bool.not_false, Bool.not_eq_true, Bool.not_eq_false, Lr.W_is_crossing_i (d := Lr.crD room pause) (fun xs e => by cases e; simp), Lr.isCr_ok hc]
  exact q
theorem t_is_rule {f : Addr} {fd : FuncData} (c_is_number : Cl P w K mg base k "is_number" 3 Lr.W_is_number) (z_len : mg "len" = none) (z_isinstance : mg "isinstance" = none) (z_tuple : mg "tuple" = none) (z_str : mg "str" = none) (z_all : mg "all" = none) (T__NUMBERS_BEHIND : Tbl K w mg "_NUMBERS_BEHIND" Lr.nbT) (F : Fun K "is_rule" "is_rule" s_is_rule f fd) (gm : mg "is_rule" = some (.ref f)) (hb : Binds K fd ["candidate"] []) : Cl P w K mg base (k + 1) "is_rule" 1 Lr.W_is_rule := by
  have nd := sc_is_rule.nd
  refine def_ok (N := ["candidate", "word", "numbers", "number"]) (ps := ["candidate"]) [Sl.un, Sl.un, Sl.un] F sc_is_rule gm hb ⟨_, fun cdv A outer s H E hr => have hu := hr.units; have hu2 := units65 hr
    (jss_cons (js_if (JW.t (jw_or (jt_not (jt_val (j_isi "tuple" (.inr (.inr (.inr (.inr rfl)))) z_isinstance (by decide +kernel) z_tuple (by decide +kernel) (jv 0)))) (jw_or1 (jt_eq hu (j_bi call_len_seq sc_len z_len PySem.boot_len (jd_cons (jv 0) jd_nil)) j_int)))) (jss_one (js_ret j_bl)) jss_nil)
  (jss_cons (js_asg (jv 0) (jg_star 1 2 rfl nd))
  (jss_cons (js_if (JW.t (jw_or (jt_not (jt_val (j_isi "str" (.inr (.inr (.inl rfl))) z_isinstance (by decide +kernel) z_str (by decide +kernel) (jv 1)))) (jw_or1 (jt_niTab T__NUMBERS_BEHIND (jv 1))))) (jss_one (js_ret j_bl)) jss_nil)
  (jss_cons (js_if (jt_ne hu (j_bi call_len_seq sc_len z_len PySem.boot_len (jd_cons (jv 2) jd_nil)) (j_ixTab T__NUMBERS_BEHIND (jv 1))) (jss_one (js_ret j_bl)) jss_nil)
  (jss_one (js_ret (j_bi (cr_all rfl) sc_all z_all (by decide +kernel) (jd_cons (JO.je (j_lc (own := [("number", 3)]) rfl nd (ji_list (jv 2)) (blkOk_by (N := ["candidate", "word", "numbers", "number"]) (sc := defScope s_is_rule) (by decide +kernel)) (fun _ _ _ _ _ => pg_name (i := 3) nd rfl (by first | exact Or.inl rfl | exact Or.inr rfl)) simgw_name (fun _ _ _ _ _ => (j_call c_is_number hr (ja_cons (jv 3) (ja_cons j_int (ja_cons j_int ja_nil))))))) jd_nil)))))))), fun as Q hl hW => ?_⟩
  obtain ⟨d, rfl, hd, q⟩ := hW
  match d, hd, q with
  | .tuple [], hd, q =>
    simp only [List.map_cons, List.map_nil, aSeq, aLc, iL, iT, iR1, iE, iZ, aSlT, aSlL, aNoP, aPt, wipeE, aIfS, aT, aB, aBO, aC, aSet, aRet, aTup, aLst, aO, dCons, dNil, aCB, aCBO, aOr, aAnd, aNot, aIf, aAndV, aOrV, aNotV, aSkip, aAsg, aAug, ex_vaint, tgN, aCall, gConsA, gNilA, gScA, gTownA, aPar2, aPar3, aV_eq, dI_i, dIC_i, dIx_t, dIx_l, dMin2_i, dMax2_i, dSumT_2, dLen_l, dLen_t, dEq_i, dNe_i, dEq_ni, dEq_in, dIs_i, dIs_n, dIsn_i, dIsn_n, dCat_l, dCatT_t, dListO_l, dListO_t, dTupleO_l, dTupleO_t, tgs2, tgs0, tgt, ite_t, ite_f, ex_l1i, ex_l1l, ex_l2l, ex_l1, ex_l2, ex_l3, ex_int, ex_bool, ex_some, ex_va, ex_ow, ex_sc, ex_list, ex_tuple, at0, at1, at2, at3, ln0, ln1, ln2, ln3, ln4, ln5, ln6, List.cons_append, List.nil_append, List.getElem?_cons_zero, List.getElem?_cons_succ, List.set_cons_zero, List.set_cons_succ, List.length_cons, List.length_nil, true_and, and_true, true_implies, forall_const, Bool.true_eq_false, Bool.false_eq_true, false_implies, decide_eq_true_eq, decide_eq_false_iff_not, Int.sub_self, Int.sub_zero, Int.reduceSub, Int.reduceAdd, Int.reduceNeg, Int.reduceEq, Int.reduceLT, Int.reduceLE, Int.reduceNe, if_true, if_false, reduceIte, decide_true, decide_false, decide_not, Bool.not_true, Bool.not_false, Bool.not_eq_true, Bool.not_eq_false, aIsi, show isiD "tuple" (.tuple []) = true from rfl, Lr.isRule] at q ⊢
    (repeat' (first | exact q | (apply And.intro) | (intro _))) <;> (exfalso; simp_all; done)
  | .tuple (x :: ns), hd, q =>
    have hx := hd.1 _ rfl
    rw [List.length_cons] at hx
    have e1 : ¬ ((((ns.length + 1 : Nat)) : Int) = 0) := by omega
    simp only [List.map_cons, List.map_nil, aSeq, aLc, iL, iT, iR1, iE, iZ, aSlT, aSlL, aNoP, aPt, wipeE, aIfS, aT, aB, aBO, aC, aSet, aRet, aTup, aLst, aO, dCons, dNil, aCB, aCBO, aOr, aAnd, aNot, aIf, aAndV, aOrV, aNotV, aSkip, aAsg, aAug, ex_vaint, tgN, aCall, gConsA, gNilA, gScA, gTownA, aPar2, aPar3, aV_eq, dI_i, dIC_i, dIx_t, dIx_l, dMin2_i, dMax2_i, dSumT_2, dLen_l, dLen_t, dEq_i, dNe_i, dEq_ni, dEq_in, dIs_i, dIs_n, dIsn_i, dIsn_n, dCat_l, dCatT_t, dListO_l, dListO_t, dTupleO_l, dTupleO_t, tgs2, tgs0, tgt, ite_t, ite_f, ex_l1i, ex_l1l, ex_l2l, ex_l1, ex_l2, ex_l3, ex_int, ex_bool, ex_some, ex_va, ex_ow, ex_sc, ex_list, ex_tuple, at0, at1, at2, at3, ln0, ln1, ln2, ln3, ln4, ln5, ln6, List.cons_append, List.nil_append, List.getElem?_cons_zero, List.getElem?_cons_succ, List.set_cons_zero, List.set_cons_succ, List.length_cons, List.length_nil, true_and, and_true, true_implies, forall_const, Bool.true_eq_false, Bool.false_eq_true, false_implies, decide_eq_true_eq, decide_eq_false_iff_not, Int.sub_self, Int.sub_zero, Int.reduceSub, Int.reduceAdd, Int.reduceNeg, Int.reduceEq, Int.reduceLT, Int.reduceLE, Int.reduceNe, if_true, if_false, reduceIte, decide_true, decide_false, decide_not, Bool.not_true, Bool.not_false, Bool.not_eq_true, Bool.not_eq_false, aIsi, show isiD "tuple" (.tuple (x :: ns)) = true from rfl, e1, tgStar] at q ⊢
    refine ⟨x, ns, rfl, by omega, ?_⟩
    match x, hd, q with
    | .str z, hd, q =>
      obtain ⟨n, hn⟩ := hd.2 z ns rfl
      simp only [List.map_cons, List.map_nil, aSeq, aLc, iL, iT, iR1, iE, iZ, aSlT, aSlL, aNoP, aPt, wipeE, aIfS, aT, aB, aBO, aC, aSet, aRet, aTup, aLst, aO, dCons, dNil, aCB, aCBO, aOr, aAnd, aNot, aIf, aAndV, aOrV, aNotV, aSkip, aAsg, aAug, ex_vaint, tgN, aCall, gConsA, gNilA, gScA, gTownA, aPar2, aPar3, aV_eq, dI_i, dIC_i, dIx_t, dIx_l, dMin2_i, dMax2_i, dSumT_2, dLen_l, dLen_t, dEq_i, dNe_i, dEq_ni, dEq_in, dIs_i, dIs_n, dIsn_i, dIsn_n, dCat_l, dCatT_t, dListO_l, dListO_t, dTupleO_l, dTupleO_t, tgs2, tgs0, tgt, ite_t, ite_f, ex_l1i, ex_l1l, ex_l2l, ex_l1, ex_l2, ex_l3, ex_int, ex_bool, ex_some, ex_va, ex_ow, ex_sc, ex_list, ex_tuple, at0, at1, at2, at3, ln0, ln1, ln2, ln3, ln4, ln5, ln6, List.cons_append, List.nil_append, List.getElem?_cons_zero, List.getElem?_cons_succ, List.set_cons_zero, List.set_cons_succ, List.length_cons, List.length_nil, true_and, and_true, true_implies, forall_const, Bool.true_eq_false, Bool.false_eq_true, false_implies, decide_eq_true_eq, decide_eq_false_iff_not, Int.sub_self, Int.sub_zero, Int.reduceSub, Int.reduceAdd, Int.reduceNeg, Int.reduceEq, Int.reduceLT, Int.reduceLE, Int.reduceNe, if_true, if_false, reduceIte, decide_true, decide_false, decide_not, Bool.not_true, Bool.not_false, Bool.not_eq_true, Bool.not_eq_false, aIsi, aNiTab, aIxTab, show isiD "str" (.str z) = true from rfl, Lr.isRule, Lr.nb_get hn] at q ⊢
      refine ⟨z, n, rfl, hn, ?_⟩
      try simp only [List.map_cons, List.map_nil, aSeq, aLc, iL, iT, iR1, iE, iZ, aSlT, aSlL, aNoP, aPt, wipeE, aIfS, aT, aB, aBO, aC, aSet, aRet, aTup, aLst, aO, dCons, dNil, aCB, aCBO, aOr, aAnd, aNot, aIf, aAndV, aOrV, aNotV, aSkip, aAsg, aAug, ex_vaint, tgN, aCall, gConsA, gNilA, gScA, gTownA, aPar2, aPar3, aV_eq, dI_i, dIC_i, dIx_t, dIx_l, dMin2_i, dMax2_i, dSumT_2, dLen_l, dLen_t, dEq_i, dNe_i, dEq_ni, dEq_in, dIs_i, dIs_n, dIsn_i, dIsn_n, dCat_l, dCatT_t, dListO_l, dListO_t, dTupleO_l, dTupleO_t, tgs2, tgs0, tgt, ite_t, ite_f, ex_l1i, ex_l1l, ex_l2l, ex_l1, ex_l2, ex_l3, ex_int, ex_bool, ex_some, ex_va, ex_ow, ex_sc, ex_list, ex_tuple, at0, at1, at2, at3, ln0, ln1, ln2, ln3, ln4, ln5, ln6, List.cons_append, List.nil_append, List.getElem?_cons_zero, List.getElem?_cons_succ, List.set_cons_zero, List.set_cons_succ, List.length_cons, List.length_nil, true_and, and_true, true_implies, forall_const, Bool.true_eq_false, Bool.false_eq_true, false_implies, decide_eq_true_eq, decide_eq_false_iff_not, Int.sub_self, Int.sub_zero, Int.reduceSub, Int.reduceAdd, Int.reduceNeg, Int.reduceEq, Int.reduceLT, Int.reduceLE, Int.reduceNe, if_true, if_false, reduceIte, decide_true, decide_false, decide_not, Bool.not_true, Bool.not_false, Bool.not_eq_true, Bool.not_eq_false]
      refine ⟨z, n, rfl, hn, ?_⟩
      try simp only [List.map_cons, List.map_nil, aSeq, aLc, iL, iT, iR1, iE, iZ, aSlT, aSlL, aNoP, aPt, wipeE, aIfS, aT, aB, aBO, aC, aSet, aRet, aTup, aLst, aO, dCons, dNil, aCB, aCBO, aOr, aAnd, aNot, aIf, aAndV, aOrV, aNotV, aSkip, aAsg, aAug, ex_vaint, tgN, aCall, gConsA, gNilA, gScA, gTownA, aPar2, aPar3, aV_eq, dI_i, dIC_i, dIx_t, dIx_l, dMin2_i, dMax2_i, dSumT_2, dLen_l, dLen_t, dEq_i, dNe_i, dEq_ni, dEq_in, dIs_i, dIs_n, dIsn_i, dIsn_n, dCat_l, dCatT_t, dListO_l, dListO_t, dTupleO_l, dTupleO_t, tgs2, tgs0, tgt, ite_t, ite_f, ex_l1i, ex_l1l, ex_l2l, ex_l1, ex_l2, ex_l3, ex_int, ex_bool, ex_some, ex_va, ex_ow, ex_sc, ex_list, ex_tuple, at0, at1, at2, at3, ln0, ln1, ln2, ln3, ln4, ln5, ln6, List.cons_append, List.nil_append, List.getElem?_cons_zero, List.getElem?_cons_succ, List.set_cons_zero, List.set_cons_succ, List.length_cons, List.length_nil, true_and, and_true, true_implies, forall_const, Bool.true_eq_false, Bool.false_eq_true, false_implies, decide_eq_true_eq, decide_eq_false_iff_not, Int.sub_self, Int.sub_zero, Int.reduceSub, Int.reduceAdd, Int.reduceNeg, Int.reduceEq, Int.reduceLT, Int.reduceLE, Int.reduceNe, if_true, if_false, reduceIte, decide_true, decide_false, decide_not, Bool.not_true, Bool.not_false, Bool.not_eq_true, Bool.not_eq_false]
      refine ⟨fun h => ?_, fun h => ?_⟩
      · have h : ¬ ((ns.length : Int) = n) := by simpa using h
        rw [decide_eq_false h, Bool.false_and] at q
        exact q
      · have h : ((ns.length : Int) = n) := by simpa using h
        rw [decide_eq_true h, Bool.true_and] at q
        refine ⟨lineLe (by omega), coll_map (fun d => .bool (Lr.isNum 1 4 d)) ns [] (fun d hd Q q => ?_) ?_⟩
        · simp only [List.map_cons, List.map_nil, aSeq, aLc, iL, iT, iR1, iE, iZ, aSlT, aSlL, aNoP, aPt, wipeE, aIfS, aT, aB, aBO, aC, aSet, aRet, aTup, aLst, aO, dCons, dNil, aCB, aCBO, aOr, aAnd, aNot, aIf, aAndV, aOrV, aNotV, aSkip, aAsg, aAug, ex_vaint, tgN, aCall, gConsA, gNilA, gScA, gTownA, aPar2, aPar3, aV_eq, dI_i, dIC_i, dIx_t, dIx_l, dMin2_i, dMax2_i, dSumT_2, dLen_l, dLen_t, dEq_i, dNe_i, dEq_ni, dEq_in, dIs_i, dIs_n, dIsn_i, dIsn_n, dCat_l, dCatT_t, dListO_l, dListO_t, dTupleO_l, dTupleO_t, tgs2, tgs0, tgt, ite_t, ite_f, ex_l1i, ex_l1l, ex_l2l, ex_l1, ex_l2, ex_l3, ex_int, ex_bool, ex_some, ex_va, ex_ow, ex_sc, ex_list, ex_tuple, at0, at1, at2, at3, ln0, ln1, ln2, ln3, ln4, ln5, ln6, List.cons_append, List.nil_append, List.getElem?_cons_zero, List.getElem?_cons_succ, List.set_cons_zero, List.set_cons_succ, List.length_cons, List.length_nil, true_and, and_true, true_implies, forall_const, Bool.true_eq_false, Bool.false_eq_true, false_implies, decide_eq_true_eq, decide_eq_false_iff_not, Int.sub_self, Int.sub_zero, Int.reduceSub, Int.reduceAdd, Int.reduceNeg, Int.reduceEq, Int.reduceLT, Int.reduceLE, Int.reduceNe, if_true, if_false, reduceIte, decide_true, decide_false, decide_not, Bool.not_true, Bool.not_false, Bool.not_eq_true, Bool.not_eq_false, wipeE, Lr.W_is_number_i]
          exact q
        · exact ⟨ns.map (Lr.isNum 1 4), by simp, by simpa [List.all_map, Function.comp] using q⟩
    | .int i, hd, q =>
      simp only [List.map_cons, List.map_nil, aSeq, aLc, iL, iT, iR1, iE, iZ, aSlT, aSlL, aNoP, aPt, wipeE, aIfS, aT, aB, aBO, aC, aSet, aRet, aTup, aLst, aO, dCons, dNil, aCB, aCBO, aOr, aAnd, aNot, aIf, aAndV, aOrV, aNotV, aSkip, aAsg, aAug, ex_vaint, tgN, aCall, gConsA, gNilA, gScA, gTownA, aPar2, aPar3, aV_eq, dI_i, dIC_i, dIx_t, dIx_l, dMin2_i, dMax2_i, dSumT_2, dLen_l, dLen_t, dEq_i, dNe_i, dEq_ni, dEq_in, dIs_i, dIs_n, dIsn_i, dIsn_n, dCat_l, dCatT_t, dListO_l, dListO_t, dTupleO_l, dTupleO_t, tgs2, tgs0, tgt, ite_t, ite_f, ex_l1i, ex_l1l, ex_l2l, ex_l1, ex_l2, ex_l3, ex_int, ex_bool, ex_some, ex_va, ex_ow, ex_sc, ex_list, ex_tuple, at0, at1, at2, at3, ln0, ln1, ln2, ln3, ln4, ln5, ln6, List.cons_append, List.nil_append, List.getElem?_cons_zero, List.getElem?_cons_succ, List.set_cons_zero, List.set_cons_succ, List.length_cons, List.length_nil, true_and, and_true, true_implies, forall_const, Bool.true_eq_false, Bool.false_eq_true, false_implies, decide_eq_true_eq, decide_eq_false_iff_not, Int.sub_self, Int.sub_zero, Int.reduceSub, Int.reduceAdd, Int.reduceNeg, Int.reduceEq, Int.reduceLT, Int.reduceLE, Int.reduceNe, if_true, if_false, reduceIte, decide_true, decide_false, decide_not, Bool.not_true, Bool.not_false, Bool.not_eq_true, Bool.not_eq_false, aIsi, show isiD "str" (.int i) = false from rfl, Lr.isRule] at q ⊢
      exact q
    | .bool i, hd, q =>
      simp only [List.map_cons, List.map_nil, aSeq, aLc, iL, iT, iR1, iE, iZ, aSlT, aSlL, aNoP, aPt, wipeE, aIfS, aT, aB, aBO, aC, aSet, aRet, aTup, aLst, aO, dCons, dNil, aCB, aCBO, aOr, aAnd, aNot, aIf, aAndV, aOrV, aNotV, aSkip, aAsg, aAug, ex_vaint, tgN, aCall, gConsA, gNilA, gScA, gTownA, aPar2, aPar3, aV_eq, dI_i, dIC_i, dIx_t, dIx_l, dMin2_i, dMax2_i, dSumT_2, dLen_l, dLen_t, dEq_i, dNe_i, dEq_ni, dEq_in, dIs_i, dIs_n, dIsn_i, dIsn_n, dCat_l, dCatT_t, dListO_l, dListO_t, dTupleO_l, dTupleO_t, tgs2, tgs0, tgt, ite_t, ite_f, ex_l1i, ex_l1l, ex_l2l, ex_l1, ex_l2, ex_l3, ex_int, ex_bool, ex_some, ex_va, ex_ow, ex_sc, ex_list, ex_tuple, at0, at1, at2, at3, ln0, ln1, ln2, ln3, ln4, ln5, ln6, List.cons_append, List.nil_append, List.getElem?_cons_zero, List.getElem?_cons_succ, List.set_cons_zero, List.set_cons_succ, List.length_cons, List.length_nil, true_and, and_true, true_implies, forall_const, Bool.true_eq_false, Bool.false_eq_true, false_implies, decide_eq_true_eq, decide_eq_false_iff_not, Int.sub_self, Int.sub_zero, Int.reduceSub, Int.reduceAdd, Int.reduceNeg, Int.reduceEq, Int.reduceLT, Int.reduceLE, Int.reduceNe, if_true, if_false, reduceIte, decide_true, decide_false, decide_not, Bool.not_true, Bool.not_false, Bool.not_eq_true, Bool.not_eq_false, aIsi, show isiD "str" (.bool i) = false from rfl, Lr.isRule] at q ⊢
      exact q
    | .none, hd, q =>
      simp only [List.map_cons, List.map_nil, aSeq, aLc, iL, iT, iR1, iE, iZ, aSlT, aSlL, aNoP, aPt, wipeE, aIfS, aT, aB, aBO, aC, aSet, aRet, aTup, aLst, aO, dCons, dNil, aCB, aCBO, aOr, aAnd, aNot, aIf, aAndV, aOrV, aNotV, aSkip, aAsg, aAug, ex_vaint, tgN, aCall, gConsA, gNilA, gScA, gTownA, aPar2, aPar3, aV_eq, dI_i, dIC_i, dIx_t, dIx_l, dMin2_i, dMax2_i, dSumT_2, dLen_l, dLen_t, dEq_i, dNe_i, dEq_ni, dEq_in, dIs_i, dIs_n, dIsn_i, dIsn_n, dCat_l, dCatT_t, dListO_l, dListO_t, dTupleO_l, dTupleO_t, tgs2, tgs0, tgt, ite_t, ite_f, ex_l1i, ex_l1l, ex_l2l, ex_l1, ex_l2, ex_l3, ex_int, ex_bool, ex_some, ex_va, ex_ow, ex_sc, ex_list, ex_tuple, at0, at1, at2, at3, ln0, ln1, ln2, ln3, ln4, ln5, ln6, List.cons_append, List.nil_append, List.getElem?_cons_zero, List.getElem?_cons_succ, List.set_cons_zero, List.set_cons_succ, List.length_cons, List.length_nil, true_and, and_true, true_implies, forall_const, Bool.true_eq_false, Bool.false_eq_true, false_implies, decide_eq_true_eq, decide_eq_false_iff_not, Int.sub_self, Int.sub_zero, Int.reduceSub, Int.reduceAdd, Int.reduceNeg, Int.reduceEq, Int.reduceLT, Int.reduceLE, Int.reduceNe, if_true, if_false, reduceIte, decide_true, decide_false, decide_not, Bool.not_true, Bool.not_false, Bool.not_eq_true, Bool.not_eq_false, aIsi, show isiD "str" .none = false from rfl, Lr.isRule] at q ⊢
      exact q
    | .list i, hd, q =>
      simp only [List.map_cons, List.map_nil, aSeq, aLc, iL, iT, iR1, iE, iZ, aSlT, aSlL, aNoP, aPt, wipeE, aIfS, aT, aB, aBO, aC, aSet, aRet, aTup, aLst, aO, dCons, dNil, aCB, aCBO, aOr, aAnd, aNot, aIf, aAndV, aOrV, aNotV, aSkip, aAsg, aAug, ex_vaint, tgN, aCall, gConsA, gNilA, gScA, gTownA, aPar2, aPar3, aV_eq, dI_i, dIC_i, dIx_t, dIx_l, dMin2_i, dMax2_i, dSumT_2, dLen_l, dLen_t, dEq_i, dNe_i, dEq_ni, dEq_in, dIs_i, dIs_n, dIsn_i, dIsn_n, dCat_l, dCatT_t, dListO_l, dListO_t, dTupleO_l, dTupleO_t, tgs2, tgs0, tgt, ite_t, ite_f, ex_l1i, ex_l1l, ex_l2l, ex_l1, ex_l2, ex_l3, ex_int, ex_bool, ex_some, ex_va, ex_ow, ex_sc, ex_list, ex_tuple, at0, at1, at2, at3, ln0, ln1, ln2, ln3, ln4, ln5, ln6, List.cons_append, List.nil_append, List.getElem?_cons_zero, List.getElem?_cons_succ, List.set_cons_zero, List.set_cons_succ, List.length_cons, List.length_nil, true_and, and_true, true_implies, forall_const, Bool.true_eq_false, Bool.false_eq_true, false_implies, decide_eq_true_eq, decide_eq_false_iff_not, Int.sub_self, Int.sub_zero, Int.reduceSub, Int.reduceAdd, Int.reduceNeg, Int.reduceEq, Int.reduceLT, Int.reduceLE, Int.reduceNe, if_true, if_false, reduceIte, decide_true, decide_false, decide_not, Bool.not_true, Bool.not_false, Bool.not_eq_true, Bool.not_eq_false, aIsi, show isiD "str" (.list i) = false from rfl, Lr.isRule] at q ⊢
      exact q
    | .tuple i, hd, q =>
      simp only [List.map_cons, List.map_nil, aSeq, aLc, iL, iT, iR1, iE, iZ, aSlT, aSlL, aNoP, aPt, wipeE, aIfS, aT, aB, aBO, aC, aSet, aRet, aTup, aLst, aO, dCons, dNil, aCB, aCBO, aOr, aAnd, aNot, aIf, aAndV, aOrV, aNotV, aSkip, aAsg, aAug, ex_vaint, tgN, aCall, gConsA, gNilA, gScA, gTownA, aPar2, aPar3, aV_eq, dI_i, dIC_i, dIx_t, dIx_l, dMin2_i, dMax2_i, dSumT_2, dLen_l, dLen_t, dEq_i, dNe_i, dEq_ni, dEq_in, dIs_i, dIs_n, dIsn_i, dIsn_n, dCat_l, dCatT_t, dListO_l, dListO_t, dTupleO_l, dTupleO_t, tgs2, tgs0, tgt, ite_t, ite_f, ex_l1i, ex_l1l, ex_l2l, ex_l1, ex_l2, ex_l3, ex_int, ex_bool, ex_some, ex_va, ex_ow, ex_sc, ex_list, ex_tuple, at0, at1, at2, at3, ln0, ln1, ln2, ln3, ln4, ln5, ln6, List.cons_append, List.nil_append, List.getElem?_cons_zero, List.getElem?_cons_succ, List.set_cons_zero, List.set_cons_succ, List.length_cons, List.length_nil, true_and, and_true, true_implies, forall_const, Bool.true_eq_false, Bool.false_eq_true, false_implies, decide_eq_true_eq, decide_eq_false_iff_not, Int.sub_self, Int.sub_zero, Int.reduceSub, Int.reduceAdd, Int.reduceNeg, Int.reduceEq, Int.reduceLT, Int.reduceLE, Int.reduceNe, if_true, if_false, reduceIte, decide_true, decide_false, decide_not, Bool.not_true, Bool.not_false, Bool.not_eq_true, Bool.not_eq_false, aIsi, show isiD "str" (.tuple i) = false from rfl, Lr.isRule] at q ⊢
      exact q
    | .dict i, hd, q =>
      simp only [List.map_cons, List.map_nil, aSeq, aLc, iL, iT, iR1, iE, iZ, aSlT, aSlL, aNoP, aPt, wipeE, aIfS, aT, aB, aBO, aC, aSet, aRet, aTup, aLst, aO, dCons, dNil, aCB, aCBO, aOr, aAnd, aNot, aIf, aAndV, aOrV, aNotV, aSkip, aAsg, aAug, ex_vaint, tgN, aCall, gConsA, gNilA, gScA, gTownA, aPar2, aPar3, aV_eq, dI_i, dIC_i, dIx_t, dIx_l, dMin2_i, dMax2_i, dSumT_2, dLen_l, dLen_t, dEq_i, dNe_i, dEq_ni, dEq_in, dIs_i, dIs_n, dIsn_i, dIsn_n, dCat_l, dCatT_t, dListO_l, dListO_t, dTupleO_l, dTupleO_t, tgs2, tgs0, tgt, ite_t, ite_f, ex_l1i, ex_l1l, ex_l2l, ex_l1, ex_l2, ex_l3, ex_int, ex_bool, ex_some, ex_va, ex_ow, ex_sc, ex_list, ex_tuple, at0, at1, at2, at3, ln0, ln1, ln2, ln3, ln4, ln5, ln6, List.cons_append, List.nil_append, List.getElem?_cons_zero, List.getElem?_cons_succ, List.set_cons_zero, List.set_cons_succ, List.length_cons, List.length_nil, true_and, and_true, true_implies, forall_const, Bool.true_eq_false, Bool.false_eq_true, false_implies, decide_eq_true_eq, decide_eq_false_iff_not, Int.sub_self, Int.sub_zero, Int.reduceSub, Int.reduceAdd, Int.reduceNeg, Int.reduceEq, Int.reduceLT, Int.reduceLE, Int.reduceNe, if_true, if_false, reduceIte, decide_true, decide_false, decide_not, Bool.not_true, Bool.not_false, Bool.not_eq_true, Bool.not_eq_false, aIsi, show isiD "str" (.dict i) = false from rfl, Lr.isRule] at q ⊢
      exact q
  | .int i, hd, q =>
    simp only [List.map_cons, List.map_nil, aSeq, aLc, iL, iT, iR1, iE, iZ, aSlT, aSlL, aNoP, aPt, wipeE, aIfS, aT, aB, aBO, aC, aSet, aRet, aTup, aLst, aO, dCons, dNil, aCB, aCBO, aOr, aAnd, aNot, aIf, aAndV, aOrV, aNotV, aSkip, aAsg, aAug, ex_vaint, tgN, aCall, gConsA, gNilA, gScA, gTownA, aPar2, aPar3, aV_eq, dI_i, dIC_i, dIx_t, dIx_l, dMin2_i, dMax2_i, dSumT_2, dLen_l, dLen_t, dEq_i, dNe_i, dEq_ni, dEq_in, dIs_i, dIs_n, dIsn_i, dIsn_n, dCat_l, dCatT_t, dListO_l, dListO_t, dTupleO_l, dTupleO_t, tgs2, tgs0, tgt, ite_t, ite_f, ex_l1i, ex_l1l, ex_l2l, ex_l1, ex_l2, ex_l3, ex_int, ex_bool, ex_some, ex_va, ex_ow, ex_sc, ex_list, ex_tuple, at0, at1, at2, at3, ln0, ln1, ln2, ln3, ln4, ln5, ln6, List.cons_append, List.nil_append, List.getElem?_cons_zero, List.getElem?_cons_succ, List.set_cons_zero, List.set_cons_succ, List.length_cons, List.length_nil, true_and, and_true, true_implies, forall_const, Bool.true_eq_false, Bool.false_eq_true, false_implies, decide_eq_true_eq, decide_eq_false_iff_not, Int.sub_self, Int.sub_zero, Int.reduceSub, Int.reduceAdd, Int.reduceNeg, Int.reduceEq, Int.reduceLT, Int.reduceLE, Int.reduceNe, if_true, if_false, reduceIte, decide_true, decide_false, decide_not, Bool.not_true, Bool.not_false, Bool.not_eq_true, Bool.not_eq_false, aIsi, show isiD "tuple" (.int i) = false from rfl, Lr.isRule] at q ⊢
    exact q
  | .bool i, hd, q =>
    simp only [List.map_cons, List.map_nil, aSeq, aLc, iL, iT, iR1, iE, iZ, aSlT, aSlL, aNoP, aPt, wipeE, aIfS, aT, aB, aBO, aC, aSet, aRet, aTup, aLst, aO, dCons, dNil, aCB, aCBO, aOr, aAnd, aNot, aIf, aAndV, aOrV, aNotV, aSkip, aAsg, aAug, ex_vaint, tgN, aCall, gConsA, gNilA, gScA, gTownA, aPar2, aPar3, aV_eq, dI_i, dIC_i, dIx_t, dIx_l, dMin2_i, dMax2_i, dSumT_2, dLen_l, dLen_t, dEq_i, dNe_i, dEq_ni, dEq_in, dIs_i, dIs_n, dIsn_i, dIsn_n, dCat_l, dCatT_t, dListO_l, dListO_t, dTupleO_l, dTupleO_t, tgs2, tgs0, tgt, ite_t, ite_f, ex_l1i, ex_l1l, ex_l2l, ex_l1, ex_l2, ex_l3, ex_int, ex_bool, ex_some, ex_va, ex_ow, ex_sc, ex_list, ex_tuple, at0, at1, at2, at3, ln0, ln1, ln2, ln3, ln4, ln5, ln6, List.cons_append, List.nil_append, List.getElem?_cons_zero, List.getElem?_cons_succ, List.set_cons_zero, List.set_cons_succ, List.length_cons, List.length_nil, true_and, and_true, true_implies, forall_const, Bool.true_eq_false, Bool.false_eq_true, false_implies, decide_eq_true_eq, decide_eq_false_iff_not, Int.sub_self, Int.sub_zero, Int.reduceSub, Int.reduceAdd, Int.reduceNeg, Int.reduceEq, Int.reduceLT, Int.reduceLE, Int.reduceNe, if_true, if_false, reduceIte, decide_true, decide_false, decide_not, Bool.not_true, Bool.not_false, Bool.not_eq_true, Bool.not_eq_false, aIsi, show isiD "tuple" (.bool i) = false from rfl, Lr.isRule] at q ⊢
    exact q
  | .none, hd, q =>
    simp only [List.map_cons, List.map_nil, aSeq, aLc, iL, iT, iR1, iE, iZ, aSlT, aSlL, aNoP, aPt, wipeE, aIfS, aT, aB, aBO, aC, aSet, aRet, aTup, aLst, aO, dCons, dNil, aCB, aCBO, aOr, aAnd, aNot, aIf, aAndV, aOrV, aNotV, aSkip, aAsg, aAug, ex_vaint, tgN, aCall, gConsA, gNilA, gScA, gTownA, aPar2, aPar3, aV_eq, dI_i, dIC_i, dIx_t, dIx_l, dMin2_i, dMax2_i, dSumT_2, dLen_l, dLen_t, dEq_i, dNe_i, dEq_ni, dEq_in, dIs_i, dIs_n, dIsn_i, dIsn_n, dCat_l, dCatT_t, dListO_l, dListO_t, dTupleO_l, dTupleO_t, tgs2, tgs0, tgt, ite_t, ite_f, ex_l1i, ex_l1l, ex_l2l, ex_l1, ex_l2, ex_l3, ex_int, ex_bool, ex_some, ex_va, ex_ow, ex_sc, ex_list, ex_tuple, at0, at1, at2, at3, ln0, ln1, ln2, ln3, ln4, ln5, ln6, List.cons_append, List.nil_append, List.getElem?_cons_zero, List.getElem?_cons_succ, List.set_cons_zero, List.set_cons_succ, List.length_cons, List.length_nil, true_and, and_true, true_implies, forall_const, Bool.true_eq_false, Bool.false_eq_true, false_implies, decide_eq_true_eq, decide_eq_false_iff_not, Int.sub_self, Int.sub_zero, Int.reduceSub, Int.reduceAdd, Int.reduceNeg, Int.reduceEq, Int.reduceLT, Int.reduceLE, Int.reduceNe, if_true, if_false, reduceIte, decide_true, decide_false, decide_not, Bool.not_true, Bool.not_false, Bool.not_eq_true, Bool.not_eq_false, aIsi, show isiD "tuple" .none = false from rfl, Lr.isRule] at q ⊢
    exact q
  | .str i, hd, q =>
    simp only [List.map_cons, List.map_nil, aSeq, aLc, iL, iT, iR1, iE, iZ, aSlT, aSlL, aNoP, aPt, wipeE, aIfS, aT, aB, aBO, aC, aSet, aRet, aTup, aLst, aO, dCons, dNil, aCB, aCBO, aOr, aAnd, aNot, aIf, aAndV, aOrV, aNotV, aSkip, aAsg, aAug, ex_vaint, tgN, aCall, gConsA, gNilA, gScA, gTownA, aPar2, aPar3, aV_eq, dI_i, dIC_i, dIx_t, dIx_l, dMin2_i, dMax2_i, dSumT_2, dLen_l, dLen_t, dEq_i, dNe_i, dEq_ni, dEq_in, dIs_i, dIs_n, dIsn_i, dIsn_n, dCat_l, dCatT_t, dListO_l, dListO_t, dTupleO_l, dTupleO_t, tgs2, tgs0, tgt, ite_t, ite_f, ex_l1i, ex_l1l, ex_l2l, ex_l1, ex_l2, ex_l3, ex_int, ex_bool, ex_some, ex_va, ex_ow, ex_sc, ex_list, ex_tuple, at0, at1, at2, at3, ln0, ln1, ln2, ln3, ln4, ln5, ln6, List.cons_append, List.nil_append, List.getElem?_cons_zero, List.getElem?_cons_succ, List.set_cons_zero, List.set_cons_succ, List.length_cons, List.length_nil, true_and, and_true, true_implies, forall_const, Bool.true_eq_false, Bool.false_eq_true, false_implies, decide_eq_true_eq, decide_eq_false_iff_not, Int.sub_self, Int.sub_zero, Int.reduceSub, Int.reduceAdd, Int.reduceNeg, Int.reduceEq, Int.reduceLT, Int.reduceLE, Int.reduceNe, if_true, if_false, reduceIte, decide_true, decide_false, decide_not, Bool.not_true, Bool.not_false, Bool.not_eq_true, Bool.not_eq_false, aIsi, show isiD "tuple" (.str i) = false from rfl, Lr.isRule] at q ⊢
    exact q
  | .list i, hd, q =>
    simp only [List.map_cons, List.map_nil, aSeq, aLc, iL, iT, iR1, iE, iZ, aSlT, aSlL, aNoP, aPt, wipeE, aIfS, aT, aB, aBO, aC, aSet, aRet, aTup, aLst, aO, dCons, dNil, aCB, aCBO, aOr, aAnd, aNot, aIf, aAndV, aOrV, aNotV, aSkip, aAsg, aAug, ex_vaint, tgN, aCall, gConsA, gNilA, gScA, gTownA, aPar2, aPar3, aV_eq, dI_i, dIC_i, dIx_t, dIx_l, dMin2_i, dMax2_i, dSumT_2, dLen_l, dLen_t, dEq_i, dNe_i, dEq_ni, dEq_in, dIs_i, dIs_n, dIsn_i, dIsn_n, dCat_l, dCatT_t, dListO_l, dListO_t, dTupleO_l, dTupleO_t, tgs2, tgs0, tgt, ite_t, ite_f, ex_l1i, ex_l1l, ex_l2l, ex_l1, ex_l2, ex_l3, ex_int, ex_bool, ex_some, ex_va, ex_ow, ex_sc, ex_list, ex_tuple, at0, at1, at2, at3, ln0, ln1, ln2, ln3, ln4, ln5, ln6, List.cons_append, List.nil_append, List.getElem?_cons_zero, List.getElem?_cons_succ, List.set_cons_zero, List.set_cons_succ, List.length_cons, List.length_nil, true_and, and_true, true_implies, forall_const, Bool.true_eq_false, Bool.false_eq_true, false_implies, decide_eq_true_eq, decide_eq_false_iff_not, Int.sub_self, Int.sub_zero, Int.reduceSub, Int.reduceAdd, Int.reduceNeg, Int.reduceEq, Int.reduceLT, Int.reduceLE, Int.reduceNe, if_true, if_false, reduceIte, decide_true, decide_false, decide_not, Bool.not_true, Bool.not_false, Bool.not_eq_true, Bool.not_eq_false, aIsi, show isiD "tuple" (.list i) = false from rfl, Lr.isRule] at q ⊢
    exact q
  | .dict i, hd, q =>
    simp only [List.map_cons, List.map_nil, aSeq, aLc, iL, iT, iR1, iE, iZ, aSlT, aSlL, aNoP, aPt, wipeE, aIfS, aT, aB, aBO, aC, aSet, aRet, aTup, aLst, aO, dCons, dNil, aCB, aCBO, aOr, aAnd, aNot, aIf, aAndV, aOrV, aNotV, aSkip, aAsg, aAug, ex_vaint, tgN, aCall, gConsA, gNilA, gScA, gTownA, aPar2, aPar3, aV_eq, dI_i, dIC_i, dIx_t, dIx_l, dMin2_i, dMax2_i, dSumT_2, dLen_l, dLen_t, dEq_i, dNe_i, dEq_ni, dEq_in, dIs_i, dIs_n, dIsn_i, dIsn_n, dCat_l, dCatT_t, dListO_l, dListO_t, dTupleO_l, dTupleO_t, tgs2, tgs0, tgt, ite_t, ite_f, ex_l1i, ex_l1l, ex_l2l, ex_l1, ex_l2, ex_l3, ex_int, ex_bool, ex_some, ex_va, ex_ow, ex_sc, ex_list, ex_tuple, at0, at1, at2, at3, ln0, ln1, ln2, ln3, ln4, ln5, ln6, List.cons_append, List.nil_append, List.getElem?_cons_zero, List.getElem?_cons_succ, List.set_cons_zero, List.set_cons_succ, List.length_cons, List.length_nil, true_and, and_true, true_implies, forall_const, Bool.true_eq_false, Bool.false_eq_true, false_implies, decide_eq_true_eq, decide_eq_false_iff_not, Int.sub_self, Int.sub_zero, Int.reduceSub, Int.reduceAdd, Int.reduceNeg, Int.reduceEq, Int.reduceLT, Int.reduceLE, Int.reduceNe, if_true, if_false, reduceIte, decide_true, decide_false, decide_not, Bool.not_true, Bool.not_false, Bool.not_eq_true, Bool.not_eq_false, aIsi, show isiD "tuple" (.dict i) = false from rfl, Lr.isRule] at q ⊢
    exact q
theorem t_check_rule {f : Addr} {fd : FuncData} (c_is_rule : Cl P w K mg base k "is_rule" 1 Lr.W_is_rule) (F : Fun K "check_rule" "check_rule" s_check_rule f fd) (gm : mg "check_rule" = some (.ref f)) (hb : Binds K fd ["rule"] []) : Cl P w K mg base (k + 1) "check_rule" 1 Lr.W_ck_ru := by
  have nd := sc_check_rule.nd
  refine def_ok (N := ["rule"]) (ps := ["rule"]) [] F sc_check_rule gm hb ⟨_, fun cdv A outer s H E hr => have hu := hr.units; have hu2 := units65 hr
    (jss_one (js_if (jt_not (jt_val (j_call c_is_rule hr (ja_cons (jv 0) ja_nil)))) jss_never jss_nil)), fun as Q hl hW => ?_⟩
  obtain ⟨rule, rfl, hc, q⟩ := hW
  simp only [List.map_cons, List.map_nil, aSeq, aLc, iL, iT, iR1, iE, iZ, aSlT, aSlL, aNoP, aPt, wipeE, aIfS, aT, aB, aBO, aC, aSet, aRet, aTup, aLst, aO, dCons, dNil, aCB, aCBO, aOr, aAnd, aNot, aIf, aAndV, aOrV, aNotV, aSkip, aAsg, aAug, ex_vaint, tgN, aCall, gConsA, gNilA, gScA, gTownA, aPar2, aPar3, aV_eq, dI_i, dIC_i, dIx_t, dIx_l, dMin2_i, dMax2_i, dSumT_2, dLen_l, dLen_t, dEq_i, dNe_i, dEq_ni, dEq_in, dIs_i, dIs_n, dIsn_i, dIsn_n, dCat_l, dCatT_t, dListO_l, dListO_t, dTupleO_l, dTupleO_t, tgs2, tgs0, tgt, ite_t, ite_f, ex_l1i, ex_l1l, ex_l2l, ex_l1, ex_l2, ex_l3, ex_int, ex_bool, ex_some, ex_va, ex_ow, ex_sc, ex_list, ex_tuple, at0, at1, at2, at3, ln0, ln1, ln2, ln3, ln4, ln5, ln6, List.cons_append, List.nil_append, List.getElem?_cons_zero, List.getElem?_cons_succ, List.set_cons_zero, List.set_cons_succ, List.length_cons, List.length_nil, true_and, and_true, true_implies, forall_const, Bool.true_eq_false, Bool.false_eq_true, false_implies, decide_eq_true_eq, decide_eq_false_iff_not, Int.sub_self, Int.sub_zero, Int.reduceSub, Int.reduceAdd, Int.reduceNeg, Int.reduceEq, Int.reduceLT, Int.reduceLE, Int.reduceNe, if_true, if_false, reduceIte, decide_true, decide_false, decide_not, Bool.not_true, Bool.not_false, Bool.not_eq_true, Bool.not_eq_false, Lr.W_is_rule_i Lr.ruleAsk_ok, Lr.isRule_ok hc]
  exact q
theorem t_Desk___init__ {f : Addr} {fd : FuncData} (c_check_crossing : Cl P w K mg base k "check_crossing" 1 Lr.W_ck_cr) (c_check_rule : Cl P w K mg base k "check_rule" 1 Lr.W_ck_ru) (F : Fun K "__init__" "Desk.__init__" s_Desk___init__ f fd) : FnOk P w K mg base CX0 (k + 1) f fd ["self", "crossing", "rule"] (spMut ⟨K, P, w⟩ 3 Lr.WM_init) := by
  have nd := sc_Desk___init__.nd
  refine def_fnM (N := ["self", "crossing", "rule"]) (ps := ["self", "crossing", "rule"]) [] F sc_Desk___init__ ⟨_, fun cdv A outer s H E hr => have hu := hr.units; have hu2 := units65 hr
    (jss_cons (js_expr (j_call c_check_crossing hr (ja_cons (jv 1) ja_nil)))
  (jss_cons (js_expr (j_call c_check_rule hr (ja_cons (jv 2) ja_nil)))
  (jss_cons (Lr.js_fset 0 (jv 1))
  (jss_cons (Lr.js_fset 0 (jv 2))
  (jss_cons (Lr.js_fnew 0 (jo_lst jd_nil))
  (jss_one (Lr.js_fnew 0 (jo_lst jd_nil)))))))), fun φ as Q hl hW ow => ?_⟩
  obtain ⟨C, a, dx, room, pause, rule, e, hc, hr, q⟩ := hW
  injection e with e1 e2
  injection e1 with e1
  subst e1 e2
  simp only [List.map_cons, List.map_nil, aSeq, aLc, iL, iT, iR1, iE, iZ, aSlT, aSlL, aNoP, aPt, wipeE, aIfS, aT, aB, aBO, aC, aSet, aRet, aTup, aLst, aO, dCons, dNil, aCB, aCBO, aOr, aAnd, aNot, aIf, aAndV, aOrV, aNotV, aSkip, aAsg, aAug, ex_vaint, tgN, aCall, gConsA, gNilA, gScA, gTownA, aPar2, aPar3, aV_eq, dI_i, dIC_i, dIx_t, dIx_l, dMin2_i, dMax2_i, dSumT_2, dLen_l, dLen_t, dEq_i, dNe_i, dEq_ni, dEq_in, dIs_i, dIs_n, dIsn_i, dIsn_n, dCat_l, dCatT_t, dListO_l, dListO_t, dTupleO_l, dTupleO_t, tgs2, tgs0, tgt, ite_t, ite_f, ex_l1i, ex_l1l, ex_l2l, ex_l1, ex_l2, ex_l3, ex_int, ex_bool, ex_some, ex_va, ex_ow, ex_sc, ex_list, ex_tuple, at0, at1, at2, at3, ln0, ln1, ln2, ln3, ln4, ln5, ln6, List.cons_append, List.nil_append, List.getElem?_cons_zero, List.getElem?_cons_succ, List.set_cons_zero, List.set_cons_succ, List.length_cons, List.length_nil, true_and, and_true, true_implies, forall_const, Bool.true_eq_false, Bool.false_eq_true, false_implies, decide_eq_true_eq, decide_eq_false_iff_not, Int.sub_self, Int.sub_zero, Int.reduceSub, Int.reduceAdd, Int.reduceNeg, Int.reduceEq, Int.reduceLT, Int.reduceLE, Int.reduceNe, if_true, if_false, reduceIte, decide_true, decide_false, decide_not, Bool.not_true, Bool.not_false, Bool.not_eq_true, Bool.not_eq_false, aFld, aCallO, aRetO, aRetE, aDrop, Lr.aFSet, Lr.aFNew, Lr.W_ck_cr_i hc, Lr.W_ck_ru_i hr]
  have n1 : ¬ ("_crossing" : Str) ∈ ([] : List Str) := by decide +kernel
  have n2 : ¬ ("_rule" : Str) ∈ [("_crossing" : Str)] := by decide +kernel
  have n3 : ¬ ("_comings" : Str) ∈ [("_crossing" : Str), "_rule"] := by decide +kernel
  have n4 : ¬ ("_undone" : Str) ∈ [("_crossing" : Str), "_rule", "_comings"] := by decide +kernel
  exact ⟨_, _, _, _, rfl, rfl, n1, (show 0 < 4 by decide), .inl rfl, _, _, _, _, rfl, rfl, n2, (show 1 < 4 by decide), .inr (.inl rfl), _, _, _, _, rfl, rfl, n3, (show 2 < 4 by decide), .inr (.inr (.inl rfl)), fun l1 => ⟨_, _, _, _, rfl, rfl, n4, (show 3 < 4 by decide), .inr (.inr (.inr rfl)), fun l2 => ⟨_, rfl, Lr.ob_to, q l1 l2⟩⟩⟩
theorem t_Desk___eq__ {f : Addr} {fd : FuncData} {C : Addr} (hD : Lr.IsD K C) (gD : mg "Desk" = some (.ref C)) (z_isinstance : mg "isinstance" = none) (F : Fun K "__eq__" "Desk.__eq__" s_Desk___eq__ f fd) : FnOk P w K mg base CX0 (k + 1) f fd ["self", "other"] (spA ⟨K, P, w⟩ 2 (Lr.W_eq C)) := by
  have nd := sc_Desk___eq__.nd
  refine def_fn (N := ["self", "other"]) (ps := ["self", "other"]) [] F sc_Desk___eq__ ⟨_, fun cdv A outer s H E hr => have hu := hr.units; have hu2 := units65 hr
    (jss_one (js_ret (je_and (Lr.je_isD 1 hD gD z_isinstance (by decide +kernel)) (je_and (j_eq hu (je_fldZ 0) (je_fldZ 1)) (je_and (j_eq hu (je_fldZ 0) (je_fldZ 1)) (je_one (j_eq hu (je_fldZ 0) (je_fldZ 1)))))))), fun as Q hl hW => ?_⟩
  rcases hW with ⟨a, dx, l1, l2, c, a', dx', l1', l2', c', rfl, q⟩ | ⟨a, dx, l1, l2, c, d, rfl, hd, q⟩
  · simp only [aFldZ, List.map_cons, List.map_nil, aSeq, aLc, iL, iT, iR1, iE, iZ, aSlT, aSlL, aNoP, aPt, wipeE, aIfS, aT, aB, aBO, aC, aSet, aRet, aTup, aLst, aO, dCons, dNil, aCB, aCBO, aOr, aAnd, aNot, aIf, aAndV, aOrV, aNotV, aSkip, aAsg, aAug, ex_vaint, tgN, aCall, gConsA, gNilA, gScA, gTownA, aPar2, aPar3, aV_eq, dI_i, dIC_i, dIx_t, dIx_l, dMin2_i, dMax2_i, dSumT_2, dLen_l, dLen_t, dEq_i, dNe_i, dEq_ni, dEq_in, dIs_i, dIs_n, dIsn_i, dIsn_n, dCat_l, dCatT_t, dListO_l, dListO_t, dTupleO_l, dTupleO_t, tgs2, tgs0, tgt, ite_t, ite_f, ex_l1i, ex_l1l, ex_l2l, ex_l1, ex_l2, ex_l3, ex_int, ex_bool, ex_some, ex_va, ex_ow, ex_sc, ex_list, ex_tuple, at0, at1, at2, at3, ln0, ln1, ln2, ln3, ln4, ln5, ln6, List.cons_append, List.nil_append, List.getElem?_cons_zero, List.getElem?_cons_succ, List.set_cons_zero, List.set_cons_succ, List.length_cons, List.length_nil, true_and, and_true, true_implies, forall_const, Bool.true_eq_false, Bool.false_eq_true, false_implies, decide_eq_true_eq, decide_eq_false_iff_not, Int.sub_self, Int.sub_zero, Int.reduceSub, Int.reduceAdd, Int.reduceNeg, Int.reduceEq, Int.reduceLT, Int.reduceLE, Int.reduceNe, if_true, if_false, reduceIte, decide_true, decide_false, decide_not, Bool.not_true, Bool.not_false, Bool.not_eq_true, Bool.not_eq_false]
    refine .inl ⟨_, rfl, Lr.dkZ_at, true, rfl, fun _ => ⟨_, _, rfl, Lr.dkZ_crossing, _, _, rfl, Lr.dkZ_crossing, Lr.dEq_cr ⟨_, rfl, fun z => ?_, fun z => ?_⟩⟩, fun z => (by cases z)⟩
    · refine ⟨_, _, rfl, Lr.dkZ_rule, _, _, rfl, Lr.dkZ_rule, Lr.dEq_ru ⟨_, rfl, fun z2 => ⟨_, _, rfl, Lr.dkZ_comings, _, _, rfl, Lr.dkZ_comings, Lr.dEq_co ?_⟩, fun z2 => ?_⟩⟩
      · unfold Lr.Dk.same at q
        rw [z, z2] at q
        exact q
      · unfold Lr.Dk.same at q
        rw [z, z2] at q
        exact q
    · unfold Lr.Dk.same at q
      rw [z] at q
      exact q
  · simp only [aFldZ, List.map_cons, List.map_nil, aSeq, aLc, iL, iT, iR1, iE, iZ, aSlT, aSlL, aNoP, aPt, wipeE, aIfS, aT, aB, aBO, aC, aSet, aRet, aTup, aLst, aO, dCons, dNil, aCB, aCBO, aOr, aAnd, aNot, aIf, aAndV, aOrV, aNotV, aSkip, aAsg, aAug, ex_vaint, tgN, aCall, gConsA, gNilA, gScA, gTownA, aPar2, aPar3, aV_eq, dI_i, dIC_i, dIx_t, dIx_l, dMin2_i, dMax2_i, dSumT_2, dLen_l, dLen_t, dEq_i, dNe_i, dEq_ni, dEq_in, dIs_i, dIs_n, dIsn_i, dIsn_n, dCat_l, dCatT_t, dListO_l, dListO_t, dTupleO_l, dTupleO_t, tgs2, tgs0, tgt, ite_t, ite_f, ex_l1i, ex_l1l, ex_l2l, ex_l1, ex_l2, ex_l3, ex_int, ex_bool, ex_some, ex_va, ex_ow, ex_sc, ex_list, ex_tuple, at0, at1, at2, at3, ln0, ln1, ln2, ln3, ln4, ln5, ln6, List.cons_append, List.nil_append, List.getElem?_cons_zero, List.getElem?_cons_succ, List.set_cons_zero, List.set_cons_succ, List.length_cons, List.length_nil, true_and, and_true, true_implies, forall_const, Bool.true_eq_false, Bool.false_eq_true, false_implies, decide_eq_true_eq, decide_eq_false_iff_not, Int.sub_self, Int.sub_zero, Int.reduceSub, Int.reduceAdd, Int.reduceNeg, Int.reduceEq, Int.reduceLT, Int.reduceLE, Int.reduceNe, if_true, if_false, reduceIte, decide_true, decide_false, decide_not, Bool.not_true, Bool.not_false, Bool.not_eq_true, Bool.not_eq_false]
    exact .inr ⟨_, rfl, hd, false, rfl, fun z => (by cases z), fun _ => q⟩
theorem t_Desk_comings {f : Addr} {fd : FuncData}  (z_list : mg "list" = none) (F : Fun K "comings" "Desk.comings" s_Desk_comings f fd) : FnOk P w K mg base CX0 (k + 1) f fd ["self"] (spSelf ⟨K, P, w⟩ 1 Lr.WD_comings) := by
  have nd := sc_Desk_comings.nd
  refine def_fnL (N := ["self"]) (ps := ["self"]) [] F sc_Desk_comings ⟨_, fun cdv A outer s H E hr => have hu := hr.units; have hu2 := units65 hr
    (jss_one (js_retO (j_tyO call_list_of sc_list z_list (by decide +kernel) (jd_cons (je_fld 0) jd_nil)))), fun as Q QO hl hW => ?_⟩
  obtain ⟨C, a, dx, l1, l2, c, rfl, ⟨hc, hr, hk⟩, q⟩ := hW
  exact ⟨_, _, rfl, Lr.fld_comings, c.cs.map PyData.int, .inl rfl, q⟩
theorem t_are_comings {f : Addr} {fd : FuncData} (c_is_number : Cl P w K mg base k "is_number" 3 Lr.W_is_number) (z_len : mg "len" = none) (z_isinstance : mg "isinstance" = none) (z_list : mg "list" = none) (z_all : mg "all" = none) (g_MOST_TICKS : ∃ t, mg "MOST_TICKS" = some (.int 40 t)) (F : Fun K "are_comings" "are_comings" s_are_comings f fd) (gm : mg "are_comings" = some (.ref f)) (hb : Binds K fd ["candidate"] []) : Cl P w K mg base (k + 1) "are_comings" 1 Lr.W_are_comings := by
  have nd := sc_are_comings.nd
  refine def_ok (N := ["candidate", "coming"]) (ps := ["candidate"]) [Sl.un] F sc_are_comings gm hb ⟨_, fun cdv A outer s H E hr => have hu := hr.units; have hu2 := units65 hr
    (jss_cons (js_if (JW.t (jw_or (jt_not (jt_val (j_isi "list" (.inr (.inr (.inr (.inl rfl)))) z_isinstance (by decide +kernel) z_list (by decide +kernel) (jv 0)))) (jw_or1 (jt_gt (j_bi call_len_seq sc_len z_len PySem.boot_len (jd_cons (jv 0) jd_nil)) (j_glob g_MOST_TICKS))))) (jss_one (js_ret j_bl)) jss_nil)
  (jss_one (js_ret (j_bi (cr_all rfl) sc_all z_all (by decide +kernel) (jd_cons (JO.je (j_lc (own := [("coming", 1)]) rfl nd (ji_list (jv 0)) (blkOk_by (N := ["candidate", "coming"]) (sc := defScope s_are_comings) (by decide +kernel)) (fun _ _ _ _ _ => pg_name (i := 1) nd rfl (by first | exact Or.inl rfl | exact Or.inr rfl)) simgw_name (fun _ _ _ _ _ => (j_call c_is_number hr (ja_cons (jv 1) (ja_cons j_int (ja_cons j_int ja_nil))))))) jd_nil))))), fun as Q hl hW => ?_⟩
  obtain ⟨d, rfl, hd, q⟩ := hW
  match d, hd, q with
  | .list xs, hd, q =>
    have hx := hd xs rfl
    simp only [List.map_cons, List.map_nil, aSeq, aLc, iL, iT, iR1, iE, iZ, aSlT, aSlL, aNoP, aPt, wipeE, aIfS, aT, aB, aBO, aC, aSet, aRet, aTup, aLst, aO, dCons, dNil, aCB, aCBO, aOr, aAnd, aNot, aIf, aAndV, aOrV, aNotV, aSkip, aAsg, aAug, ex_vaint, tgN, aCall, gConsA, gNilA, gScA, gTownA, aPar2, aPar3, aV_eq, dI_i, dIC_i, dIx_t, dIx_l, dMin2_i, dMax2_i, dSumT_2, dLen_l, dLen_t, dEq_i, dNe_i, dEq_ni, dEq_in, dIs_i, dIs_n, dIsn_i, dIsn_n, dCat_l, dCatT_t, dListO_l, dListO_t, dTupleO_l, dTupleO_t, tgs2, tgs0, tgt, ite_t, ite_f, ex_l1i, ex_l1l, ex_l2l, ex_l1, ex_l2, ex_l3, ex_int, ex_bool, ex_some, ex_va, ex_ow, ex_sc, ex_list, ex_tuple, at0, at1, at2, at3, ln0, ln1, ln2, ln3, ln4, ln5, ln6, List.cons_append, List.nil_append, List.getElem?_cons_zero, List.getElem?_cons_succ, List.set_cons_zero, List.set_cons_succ, List.length_cons, List.length_nil, true_and, and_true, true_implies, forall_const, Bool.true_eq_false, Bool.false_eq_true, false_implies, decide_eq_true_eq, decide_eq_false_iff_not, Int.sub_self, Int.sub_zero, Int.reduceSub, Int.reduceAdd, Int.reduceNeg, Int.reduceEq, Int.reduceLT, Int.reduceLE, Int.reduceNe, if_true, if_false, reduceIte, decide_true, decide_false, decide_not, Bool.not_true, Bool.not_false, Bool.not_eq_true, Bool.not_eq_false, aIsi, show isiD "list" (.list xs) = true from rfl, Lr.areCo] at q ⊢
    refine ⟨fun h => ?_, fun h => ?_⟩
    · have e : decide (xs.length ≤ 40) = false := by
        rw [decide_eq_false_iff_not]
        omega
      rw [e, Bool.false_and] at q
      exact q
    · refine ⟨lineLe hx, coll_map (fun d => .bool (Lr.isNum 0 3 d)) xs [] (fun d hd Q q => ?_) ?_⟩
      · simp only [List.map_cons, List.map_nil, aSeq, aLc, iL, iT, iR1, iE, iZ, aSlT, aSlL, aNoP, aPt, wipeE, aIfS, aT, aB, aBO, aC, aSet, aRet, aTup, aLst, aO, dCons, dNil, aCB, aCBO, aOr, aAnd, aNot, aIf, aAndV, aOrV, aNotV, aSkip, aAsg, aAug, ex_vaint, tgN, aCall, gConsA, gNilA, gScA, gTownA, aPar2, aPar3, aV_eq, dI_i, dIC_i, dIx_t, dIx_l, dMin2_i, dMax2_i, dSumT_2, dLen_l, dLen_t, dEq_i, dNe_i, dEq_ni, dEq_in, dIs_i, dIs_n, dIsn_i, dIsn_n, dCat_l, dCatT_t, dListO_l, dListO_t, dTupleO_l, dTupleO_t, tgs2, tgs0, tgt, ite_t, ite_f, ex_l1i, ex_l1l, ex_l2l, ex_l1, ex_l2, ex_l3, ex_int, ex_bool, ex_some, ex_va, ex_ow, ex_sc, ex_list, ex_tuple, at0, at1, at2, at3, ln0, ln1, ln2, ln3, ln4, ln5, ln6, List.cons_append, List.nil_append, List.getElem?_cons_zero, List.getElem?_cons_succ, List.set_cons_zero, List.set_cons_succ, List.length_cons, List.length_nil, true_and, and_true, true_implies, forall_const, Bool.true_eq_false, Bool.false_eq_true, false_implies, decide_eq_true_eq, decide_eq_false_iff_not, Int.sub_self, Int.sub_zero, Int.reduceSub, Int.reduceAdd, Int.reduceNeg, Int.reduceEq, Int.reduceLT, Int.reduceLE, Int.reduceNe, if_true, if_false, reduceIte, decide_true, decide_false, decide_not, Bool.not_true, Bool.not_false, Bool.not_eq_true, Bool.not_eq_false, wipeE, Lr.W_is_number_i]
        exact q
      · refine ⟨xs.map (Lr.isNum 0 3), by simp, ?_⟩
        have e : decide (xs.length ≤ 40) = true := by
          rw [decide_eq_true_eq]
          omega
        rw [e, Bool.true_and] at q
        simpa [List.all_map, Function.comp] using q
  | .int i, hd, q =>
    simp only [List.map_cons, List.map_nil, aSeq, aLc, iL, iT, iR1, iE, iZ, aSlT, aSlL, aNoP, aPt, wipeE, aIfS, aT, aB, aBO, aC, aSet, aRet, aTup, aLst, aO, dCons, dNil, aCB, aCBO, aOr, aAnd, aNot, aIf, aAndV, aOrV, aNotV, aSkip, aAsg, aAug, ex_vaint, tgN, aCall, gConsA, gNilA, gScA, gTownA, aPar2, aPar3, aV_eq, dI_i, dIC_i, dIx_t, dIx_l, dMin2_i, dMax2_i, dSumT_2, dLen_l, dLen_t, dEq_i, dNe_i, dEq_ni, dEq_in, dIs_i, dIs_n, dIsn_i, dIsn_n, dCat_l, dCatT_t, dListO_l, dListO_t, dTupleO_l, dTupleO_t, tgs2, tgs0, tgt, ite_t, ite_f, ex_l1i, ex_l1l, ex_l2l, ex_l1, ex_l2, ex_l3, ex_int, ex_bool, ex_some, ex_va, ex_ow, ex_sc, ex_list, ex_tuple, at0, at1, at2, at3, ln0, ln1, ln2, ln3, ln4, ln5, ln6, List.cons_append, List.nil_append, List.getElem?_cons_zero, List.getElem?_cons_succ, List.set_cons_zero, List.set_cons_succ, List.length_cons, List.length_nil, true_and, and_true, true_implies, forall_const, Bool.true_eq_false, Bool.false_eq_true, false_implies, decide_eq_true_eq, decide_eq_false_iff_not, Int.sub_self, Int.sub_zero, Int.reduceSub, Int.reduceAdd, Int.reduceNeg, Int.reduceEq, Int.reduceLT, Int.reduceLE, Int.reduceNe, if_true, if_false, reduceIte, decide_true, decide_false, decide_not, Bool.not_true, Bool.not_false, Bool.not_eq_true, Bool.not_eq_false, aIsi, show isiD "list" (.int i) = false from rfl, Lr.areCo] at q ⊢
    exact q
  | .bool i, hd, q =>
    simp only [List.map_cons, List.map_nil, aSeq, aLc, iL, iT, iR1, iE, iZ, aSlT, aSlL, aNoP, aPt, wipeE, aIfS, aT, aB, aBO, aC, aSet, aRet, aTup, aLst, aO, dCons, dNil, aCB, aCBO, aOr, aAnd, aNot, aIf, aAndV, aOrV, aNotV, aSkip, aAsg, aAug, ex_vaint, tgN, aCall, gConsA, gNilA, gScA, gTownA, aPar2, aPar3, aV_eq, dI_i, dIC_i, dIx_t, dIx_l, dMin2_i, dMax2_i, dSumT_2, dLen_l, dLen_t, dEq_i, dNe_i, dEq_ni, dEq_in, dIs_i, dIs_n, dIsn_i, dIsn_n, dCat_l, dCatT_t, dListO_l, dListO_t, dTupleO_l, dTupleO_t, tgs2, tgs0, tgt, ite_t, ite_f, ex_l1i, ex_l1l, ex_l2l, ex_l1, ex_l2, ex_l3, ex_int, ex_bool, ex_some, ex_va, ex_ow, ex_sc, ex_list, ex_tuple, at0, at1, at2, at3, ln0, ln1, ln2, ln3, ln4, ln5, ln6, List.cons_append, List.nil_append, List.getElem?_cons_zero, List.getElem?_cons_succ, List.set_cons_zero, List.set_cons_succ, List.length_cons, List.length_nil, true_and, and_true, true_implies, forall_const, Bool.true_eq_false, Bool.false_eq_true, false_implies, decide_eq_true_eq, decide_eq_false_iff_not, Int.sub_self, Int.sub_zero, Int.reduceSub, Int.reduceAdd, Int.reduceNeg, Int.reduceEq, Int.reduceLT, Int.reduceLE, Int.reduceNe, if_true, if_false, reduceIte, decide_true, decide_false, decide_not, Bool.not_true, Bool.not_false, Bool.not_eq_true, Bool.not_eq_false, aIsi, show isiD "list" (.bool i) = false from rfl, Lr.areCo] at q ⊢
    exact q
  | .none, hd, q =>
    simp only [List.map_cons, List.map_nil, aSeq, aLc, iL, iT, iR1, iE, iZ, aSlT, aSlL, aNoP, aPt, wipeE, aIfS, aT, aB, aBO, aC, aSet, aRet, aTup, aLst, aO, dCons, dNil, aCB, aCBO, aOr, aAnd, aNot, aIf, aAndV, aOrV, aNotV, aSkip, aAsg, aAug, ex_vaint, tgN, aCall, gConsA, gNilA, gScA, gTownA, aPar2, aPar3, aV_eq, dI_i, dIC_i, dIx_t, dIx_l, dMin2_i, dMax2_i, dSumT_2, dLen_l, dLen_t, dEq_i, dNe_i, dEq_ni, dEq_in, dIs_i, dIs_n, dIsn_i, dIsn_n, dCat_l, dCatT_t, dListO_l, dListO_t, dTupleO_l, dTupleO_t, tgs2, tgs0, tgt, ite_t, ite_f, ex_l1i, ex_l1l, ex_l2l, ex_l1, ex_l2, ex_l3, ex_int, ex_bool, ex_some, ex_va, ex_ow, ex_sc, ex_list, ex_tuple, at0, at1, at2, at3, ln0, ln1, ln2, ln3, ln4, ln5, ln6, List.cons_append, List.nil_append, List.getElem?_cons_zero, List.getElem?_cons_succ, List.set_cons_zero, List.set_cons_succ, List.length_cons, List.length_nil, true_and, and_true, true_implies, forall_const, Bool.true_eq_false, Bool.false_eq_true, false_implies, decide_eq_true_eq, decide_eq_false_iff_not, Int.sub_self, Int.sub_zero, Int.reduceSub, Int.reduceAdd, Int.reduceNeg, Int.reduceEq, Int.reduceLT, Int.reduceLE, Int.reduceNe, if_true, if_false, reduceIte, decide_true, decide_false, decide_not, Bool.not_true, Bool.not_false, Bool.not_eq_true, Bool.not_eq_false, aIsi, show isiD "list" .none = false from rfl, Lr.areCo] at q ⊢
    exact q
  | .str i, hd, q =>
    simp only [List.map_cons, List.map_nil, aSeq, aLc, iL, iT, iR1, iE, iZ, aSlT, aSlL, aNoP, aPt, wipeE, aIfS, aT, aB, aBO, aC, aSet, aRet, aTup, aLst, aO, dCons, dNil, aCB, aCBO, aOr, aAnd, aNot, aIf, aAndV, aOrV, aNotV, aSkip, aAsg, aAug, ex_vaint, tgN, aCall, gConsA, gNilA, gScA, gTownA, aPar2, aPar3, aV_eq, dI_i, dIC_i, dIx_t, dIx_l, dMin2_i, dMax2_i, dSumT_2, dLen_l, dLen_t, dEq_i, dNe_i, dEq_ni, dEq_in, dIs_i, dIs_n, dIsn_i, dIsn_n, dCat_l, dCatT_t, dListO_l, dListO_t, dTupleO_l, dTupleO_t, tgs2, tgs0, tgt, ite_t, ite_f, ex_l1i, ex_l1l, ex_l2l, ex_l1, ex_l2, ex_l3, ex_int, ex_bool, ex_some, ex_va, ex_ow, ex_sc, ex_list, ex_tuple, at0, at1, at2, at3, ln0, ln1, ln2, ln3, ln4, ln5, ln6, List.cons_append, List.nil_append, List.getElem?_cons_zero, List.getElem?_cons_succ, List.set_cons_zero, List.set_cons_succ, List.length_cons, List.length_nil, true_and, and_true, true_implies, forall_const, Bool.true_eq_false, Bool.false_eq_true, false_implies, decide_eq_true_eq, decide_eq_false_iff_not, Int.sub_self, Int.sub_zero, Int.reduceSub, Int.reduceAdd, Int.reduceNeg, Int.reduceEq, Int.reduceLT, Int.reduceLE, Int.reduceNe, if_true, if_false, reduceIte, decide_true, decide_false, decide_not, Bool.not_true, Bool.not_false, Bool.not_eq_true, Bool.not_eq_false, aIsi, show isiD "list" (.str i) = false from rfl, Lr.areCo] at q ⊢
    exact q
  | .tuple i, hd, q =>
    simp only [List.map_cons, List.map_nil, aSeq, aLc, iL, iT, iR1, iE, iZ, aSlT, aSlL, aNoP, aPt, wipeE, aIfS, aT, aB, aBO, aC, aSet, aRet, aTup, aLst, aO, dCons, dNil, aCB, aCBO, aOr, aAnd, aNot, aIf, aAndV, aOrV, aNotV, aSkip, aAsg, aAug, ex_vaint, tgN, aCall, gConsA, gNilA, gScA, gTownA, aPar2, aPar3, aV_eq, dI_i, dIC_i, dIx_t, dIx_l, dMin2_i, dMax2_i, dSumT_2, dLen_l, dLen_t, dEq_i, dNe_i, dEq_ni, dEq_in, dIs_i, dIs_n, dIsn_i, dIsn_n, dCat_l, dCatT_t, dListO_l, dListO_t, dTupleO_l, dTupleO_t, tgs2, tgs0, tgt, ite_t, ite_f, ex_l1i, ex_l1l, ex_l2l, ex_l1, ex_l2, ex_l3, ex_int, ex_bool, ex_some, ex_va, ex_ow, ex_sc, ex_list, ex_tuple, at0, at1, at2, at3, ln0, ln1, ln2, ln3, ln4, ln5, ln6, List.cons_append, List.nil_append, List.getElem?_cons_zero, List.getElem?_cons_succ, List.set_cons_zero, List.set_cons_succ, List.length_cons, List.length_nil, true_and, and_true, true_implies, forall_const, Bool.true_eq_false, Bool.false_eq_true, false_implies, decide_eq_true_eq, decide_eq_false_iff_not, Int.sub_self, Int.sub_zero, Int.reduceSub, Int.reduceAdd, Int.reduceNeg, Int.reduceEq, Int.reduceLT, Int.reduceLE, Int.reduceNe, if_true, if_false, reduceIte, decide_true, decide_false, decide_not, Bool.not_true, Bool.not_false, Bool.not_eq_true, Bool.not_eq_false, aIsi, show isiD "list" (.tuple i) = false from rfl, Lr.areCo] at q ⊢
    exact q
  | .dict i, hd, q =>
    simp only [List.map_cons, List.map_nil, aSeq, aLc, iL, iT, iR1, iE, iZ, aSlT, aSlL, aNoP, aPt, wipeE, aIfS, aT, aB, aBO, aC, aSet, aRet, aTup, aLst, aO, dCons, dNil, aCB, aCBO, aOr, aAnd, aNot, aIf, aAndV, aOrV, aNotV, aSkip, aAsg, aAug, ex_vaint, tgN, aCall, gConsA, gNilA, gScA, gTownA, aPar2, aPar3, aV_eq, dI_i, dIC_i, dIx_t, dIx_l, dMin2_i, dMax2_i, dSumT_2, dLen_l, dLen_t, dEq_i, dNe_i, dEq_ni, dEq_in, dIs_i, dIs_n, dIsn_i, dIsn_n, dCat_l, dCatT_t, dListO_l, dListO_t, dTupleO_l, dTupleO_t, tgs2, tgs0, tgt, ite_t, ite_f, ex_l1i, ex_l1l, ex_l2l, ex_l1, ex_l2, ex_l3, ex_int, ex_bool, ex_some, ex_va, ex_ow, ex_sc, ex_list, ex_tuple, at0, at1, at2, at3, ln0, ln1, ln2, ln3, ln4, ln5, ln6, List.cons_append, List.nil_append, List.getElem?_cons_zero, List.getElem?_cons_succ, List.set_cons_zero, List.set_cons_succ, List.length_cons, List.length_nil, true_and, and_true, true_implies, forall_const, Bool.true_eq_false, Bool.false_eq_true, false_implies, decide_eq_true_eq, decide_eq_false_iff_not, Int.sub_self, Int.sub_zero, Int.reduceSub, Int.reduceAdd, Int.reduceNeg, Int.reduceEq, Int.reduceLT, Int.reduceLE, Int.reduceNe, if_true, if_false, reduceIte, decide_true, decide_false, decide_not, Bool.not_true, Bool.not_false, Bool.not_eq_true, Bool.not_eq_false, aIsi, show isiD "list" (.dict i) = false from rfl, Lr.areCo] at q ⊢
    exact q
theorem t_check_comings {f : Addr} {fd : FuncData} (c_are_comings : Cl P w K mg base k "are_comings" 1 Lr.W_are_comings) (F : Fun K "check_comings" "check_comings" s_check_comings f fd) (gm : mg "check_comings" = some (.ref f)) (hb : Binds K fd ["comings"] []) : Cl P w K mg base (k + 1) "check_comings" 1 Lr.W_ck_co := by
  have nd := sc_check_comings.nd
  refine def_ok (N := ["comings"]) (ps := ["comings"]) [] F sc_check_comings gm hb ⟨_, fun cdv A outer s H E hr => have hu := hr.units; have hu2 := units65 hr
    (jss_one (js_if (jt_not (jt_val (j_call c_are_comings hr (ja_cons (jv 0) ja_nil)))) jss_never jss_nil)), fun as Q hl hW => ?_⟩
  obtain ⟨cs, rfl, hc, q⟩ := hW
  have hl : ∀ xs, Lr.coD cs = .list xs → xs.length ≤ 1000 := fun xs e => by
    cases e
    rw [List.length_map]
    have := hc.1
    omega
  simp only [List.map_cons, List.map_nil, aSeq, aLc, iL, iT, iR1, iE, iZ, aSlT, aSlL, aNoP, aPt, wipeE, aIfS, aT, aB, aBO, aC, aSet, aRet, aTup, aLst, aO, dCons, dNil, aCB, aCBO, aOr, aAnd, aNot, aIf, aAndV, aOrV, aNotV, aSkip, aAsg, aAug, ex_vaint, tgN, aCall, gConsA, gNilA, gScA, gTownA, aPar2, aPar3, aV_eq, dI_i, dIC_i, dIx_t, dIx_l, dMin2_i, dMax2_i, dSumT_2, dLen_l, dLen_t, dEq_i, dNe_i, dEq_ni, dEq_in, dIs_i, dIs_n, dIsn_i, dIsn_n, dCat_l, dCatT_t, dListO_l, dListO_t, dTupleO_l, dTupleO_t, tgs2, tgs0, tgt, ite_t, ite_f, ex_l1i, ex_l1l, ex_l2l, ex_l1, ex_l2, ex_l3, ex_int, ex_bool, ex_some, ex_va, ex_ow, ex_sc, ex_list, ex_tuple, at0, at1, at2, at3, ln0, ln1, ln2, ln3, ln4, ln5, ln6, List.cons_append, List.nil_append, List.getElem?_cons_zero, List.getElem?_cons_succ, List.set_cons_zero, List.set_cons_succ, List.length_cons, List.length_nil, true_and, and_true, true_implies, forall_const, Bool.true_eq_false, Bool.false_eq_true, false_implies, decide_eq_true_eq, decide_eq_false_iff_not, Int.sub_self, Int.sub_zero, Int.reduceSub, Int.reduceAdd, Int.reduceNeg, Int.reduceEq, Int.reduceLT, Int.reduceLE, Int.reduceNe, if_true, if_false, reduceIte, decide_true, decide_false, decide_not, Bool.not_true, Bool.not_false, Bool.not_eq_true, Bool.not_eq_false, Lr.W_are_comings_i hl, Lr.areCo_ok hc]
  exact q
theorem t_first_state {f : Addr} {fd : FuncData}  (F : Fun K "first_state" "first_state" s_first_state f fd) (gm : mg "first_state" = some (.ref f)) (hb : Binds K fd [] []) : Cl P w K mg base (k + 1) "first_state" 0 Lr.W_first := by
  have nd := sc_first_state.nd
  refine def_ok (N := []) (ps := []) [] F sc_first_state gm hb ⟨_, fun cdv A outer s H E hr => have hu := hr.units; have hu2 := units65 hr
    (jss_one (js_ret (je_tup (jd_cons j_int (jd_cons j_int (jd_cons j_int (jd_cons j_int (jd_cons j_int (jd_cons (je_tup (jd_cons j_int (jd_cons j_int jd_nil))) jd_nil))))))))), fun as Q hl hW => ?_⟩
  obtain ⟨rfl, q⟩ := hW
  simp only [List.map_cons, List.map_nil, aSeq, aLc, iL, iT, iR1, iE, iZ, aSlT, aSlL, aNoP, aPt, wipeE, aIfS, aT, aB, aBO, aC, aSet, aRet, aTup, aLst, aO, dCons, dNil, aCB, aCBO, aOr, aAnd, aNot, aIf, aAndV, aOrV, aNotV, aSkip, aAsg, aAug, ex_vaint, tgN, aCall, gConsA, gNilA, gScA, gTownA, aPar2, aPar3, aV_eq, dI_i, dIC_i, dIx_t, dIx_l, dMin2_i, dMax2_i, dSumT_2, dLen_l, dLen_t, dEq_i, dNe_i, dEq_ni, dEq_in, dIs_i, dIs_n, dIsn_i, dIsn_n, dCat_l, dCatT_t, dListO_l, dListO_t, dTupleO_l, dTupleO_t, tgs2, tgs0, tgt, ite_t, ite_f, ex_l1i, ex_l1l, ex_l2l, ex_l1, ex_l2, ex_l3, ex_int, ex_bool, ex_some, ex_va, ex_ow, ex_sc, ex_list, ex_tuple, at0, at1, at2, at3, ln0, ln1, ln2, ln3, ln4, ln5, ln6, List.cons_append, List.nil_append, List.getElem?_cons_zero, List.getElem?_cons_succ, List.set_cons_zero, List.set_cons_succ, List.length_cons, List.length_nil, true_and, and_true, true_implies, forall_const, Bool.true_eq_false, Bool.false_eq_true, false_implies, decide_eq_true_eq, decide_eq_false_iff_not, Int.sub_self, Int.sub_zero, Int.reduceSub, Int.reduceAdd, Int.reduceNeg, Int.reduceEq, Int.reduceLT, Int.reduceLE, Int.reduceNe, if_true, if_false, reduceIte, decide_true, decide_false, decide_not, Bool.not_true, Bool.not_false, Bool.not_eq_true, Bool.not_eq_false]
  exact q
theorem t__join {f : Addr} {fd : FuncData}  (z_min : mg "min" = none) (z_sum : mg "sum" = none) (F : Fun K "_join" "_join" s__join f fd) (gm : mg "_join" = some (.ref f)) (hb : Binds K fd ["room", "lines", "coming"] []) : Cl P w K mg base (k + 1) "_join" 3 Lr.W_join := by
  have nd := sc__join.nd
  refine def_ok (N := ["room", "lines", "coming", "wanted", "joined"]) (ps := ["room", "lines", "coming"]) [Sl.un, Sl.un] F sc__join gm hb ⟨_, fun cdv A outer s H E hr => have hu := hr.units; have hu2 := units65 hr
    (jss_cons (js_set 3 nd (je_tup (jd_cons (j_add (j_ix (jv 1) j_int) (j_band (jv 2) j_int)) (jd_cons (j_add (j_ix (jv 1) j_int) (j_shr (jv 2) j_int)) jd_nil))))
  (jss_cons (js_set 4 nd (je_tup (jd_cons (j_bi (call_min2 rfl) sc_min2 z_min (by decide +kernel) (jd_cons (jv 0) (jd_cons (j_ix (jv 3) j_int) jd_nil))) (jd_cons (j_bi (call_min2 rfl) sc_min2 z_min (by decide +kernel) (jd_cons (jv 0) (jd_cons (j_ix (jv 3) j_int) jd_nil))) jd_nil))))
  (jss_one (js_ret (je_tup (jd_cons (jv 4) (jd_cons (j_sub (j_bi (cr_sumT rfl) sc_sumT z_sum (by decide +kernel) (jd_cons (jv 3) jd_nil)) (j_bi (cr_sumT rfl) sc_sumT z_sum (by decide +kernel) (jd_cons (jv 4) jd_nil))) jd_nil))))))), fun as Q hl hW => ?_⟩
  obtain ⟨room, a, b, c, rfl, hc, q⟩ := hW
  have sh : ∀ x : Int, x / 2 ^ Int.toNat 1 = Lr.bit1 x := fun _ => rfl
  simp only [Lr.lnD, List.map_cons, List.map_nil, aSeq, aLc, iL, iT, iR1, iE, iZ, aSlT, aSlL, aNoP, aPt, wipeE, aIfS, aT, aB, aBO, aC, aSet, aRet, aTup, aLst, aO, dCons, dNil, aCB, aCBO, aOr, aAnd, aNot, aIf, aAndV, aOrV, aNotV, aSkip, aAsg, aAug, ex_vaint, tgN, aCall, gConsA, gNilA, gScA, gTownA, aPar2, aPar3, aV_eq, dI_i, dIC_i, dIx_t, dIx_l, dMin2_i, dMax2_i, dSumT_2, dLen_l, dLen_t, dEq_i, dNe_i, dEq_ni, dEq_in, dIs_i, dIs_n, dIsn_i, dIsn_n, dCat_l, dCatT_t, dListO_l, dListO_t, dTupleO_l, dTupleO_t, tgs2, tgs0, tgt, ite_t, ite_f, ex_l1i, ex_l1l, ex_l2l, ex_l1, ex_l2, ex_l3, ex_int, ex_bool, ex_some, ex_va, ex_ow, ex_sc, ex_list, ex_tuple, at0, at1, at2, at3, ln0, ln1, ln2, ln3, ln4, ln5, ln6, List.cons_append, List.nil_append, List.getElem?_cons_zero, List.getElem?_cons_succ, List.set_cons_zero, List.set_cons_succ, List.length_cons, List.length_nil, true_and, and_true, true_implies, forall_const, Bool.true_eq_false, Bool.false_eq_true, false_implies, decide_eq_true_eq, decide_eq_false_iff_not, Int.sub_self, Int.sub_zero, Int.reduceSub, Int.reduceAdd, Int.reduceNeg, Int.reduceEq, Int.reduceLT, Int.reduceLE, Int.reduceNe, if_true, if_false, reduceIte, decide_true, decide_false, decide_not, Bool.not_true, Bool.not_false, Bool.not_eq_true, Bool.not_eq_false, Lr.band1 hc, sh, Lr.ite_min] at q ⊢
  exact q
theorem t__leave {f : Addr} {fd : FuncData}  (F : Fun K "_leave" "_leave" s__leave f fd) (gm : mg "_leave" = some (.ref f)) (hb : Binds K fd ["lines", "light"] []) : Cl P w K mg base (k + 1) "_leave" 2 Lr.W_leave := by
  have nd := sc__leave.nd
  refine def_ok (N := ["lines", "light"]) (ps := ["lines", "light"]) [] F sc__leave gm hb ⟨_, fun cdv A outer s H E hr => have hu := hr.units; have hu2 := units65 hr
    (jss_cons (js_if (JW.t (jw_or (jt_is (jv 1) j_non) (jw_or1 (jt_eq hu (j_ix (jv 0) (jv 1)) j_int)))) (jss_one (js_ret (je_tup (jd_cons (jv 0) (jd_cons j_int jd_nil))))) jss_nil)
  (jss_cons (js_if (jt_eq hu (jv 1) j_int) (jss_one (js_ret (je_tup (jd_cons (je_tup (jd_cons (j_sub (j_ix (jv 0) j_int) j_int) (jd_cons (j_ix (jv 0) j_int) jd_nil))) (jd_cons j_int jd_nil))))) jss_nil)
  (jss_one (js_ret (je_tup (jd_cons (je_tup (jd_cons (j_ix (jv 0) j_int) (jd_cons (j_sub (j_ix (jv 0) j_int) j_int) jd_nil))) (jd_cons j_int jd_nil))))))), fun as Q hl hW => ?_⟩
  obtain ⟨a, b, l, rfl, hl, q⟩ := hW
  cases l with
  | dark =>
    simp only [Lr.lnD, Lr.Lt.d, List.map_cons, List.map_nil, aSeq, aLc, iL, iT, iR1, iE, iZ, aSlT, aSlL, aNoP, aPt, wipeE, aIfS, aT, aB, aBO, aC, aSet, aRet, aTup, aLst, aO, dCons, dNil, aCB, aCBO, aOr, aAnd, aNot, aIf, aAndV, aOrV, aNotV, aSkip, aAsg, aAug, ex_vaint, tgN, aCall, gConsA, gNilA, gScA, gTownA, aPar2, aPar3, aV_eq, dI_i, dIC_i, dIx_t, dIx_l, dMin2_i, dMax2_i, dSumT_2, dLen_l, dLen_t, dEq_i, dNe_i, dEq_ni, dEq_in, dIs_i, dIs_n, dIsn_i, dIsn_n, dCat_l, dCatT_t, dListO_l, dListO_t, dTupleO_l, dTupleO_t, tgs2, tgs0, tgt, ite_t, ite_f, ex_l1i, ex_l1l, ex_l2l, ex_l1, ex_l2, ex_l3, ex_int, ex_bool, ex_some, ex_va, ex_ow, ex_sc, ex_list, ex_tuple, at0, at1, at2, at3, ln0, ln1, ln2, ln3, ln4, ln5, ln6, List.cons_append, List.nil_append, List.getElem?_cons_zero, List.getElem?_cons_succ, List.set_cons_zero, List.set_cons_succ, List.length_cons, List.length_nil, true_and, and_true, true_implies, forall_const, Bool.true_eq_false, Bool.false_eq_true, false_implies, decide_eq_true_eq, decide_eq_false_iff_not, Int.sub_self, Int.sub_zero, Int.reduceSub, Int.reduceAdd, Int.reduceNeg, Int.reduceEq, Int.reduceLT, Int.reduceLE, Int.reduceNe, if_true, if_false, reduceIte, decide_true, decide_false, decide_not, Bool.not_true, Bool.not_false, Bool.not_eq_true, Bool.not_eq_false] at q ⊢
    exact q
  | r i =>
    rcases hl i rfl with rfl | rfl
    all_goals
      simp only [Lr.lnD, Lr.Lt.d, List.map_cons, List.map_nil, aSeq, aLc, iL, iT, iR1, iE, iZ, aSlT, aSlL, aNoP, aPt, wipeE, aIfS, aT, aB, aBO, aC, aSet, aRet, aTup, aLst, aO, dCons, dNil, aCB, aCBO, aOr, aAnd, aNot, aIf, aAndV, aOrV, aNotV, aSkip, aAsg, aAug, ex_vaint, tgN, aCall, gConsA, gNilA, gScA, gTownA, aPar2, aPar3, aV_eq, dI_i, dIC_i, dIx_t, dIx_l, dMin2_i, dMax2_i, dSumT_2, dLen_l, dLen_t, dEq_i, dNe_i, dEq_ni, dEq_in, dIs_i, dIs_n, dIsn_i, dIsn_n, dCat_l, dCatT_t, dListO_l, dListO_t, dTupleO_l, dTupleO_t, tgs2, tgs0, tgt, ite_t, ite_f, ex_l1i, ex_l1l, ex_l2l, ex_l1, ex_l2, ex_l3, ex_int, ex_bool, ex_some, ex_va, ex_ow, ex_sc, ex_list, ex_tuple, at0, at1, at2, at3, ln0, ln1, ln2, ln3, ln4, ln5, ln6, List.cons_append, List.nil_append, List.getElem?_cons_zero, List.getElem?_cons_succ, List.set_cons_zero, List.set_cons_succ, List.length_cons, List.length_nil, true_and, and_true, true_implies, forall_const, Bool.true_eq_false, Bool.false_eq_true, false_implies, decide_eq_true_eq, decide_eq_false_iff_not, Int.sub_self, Int.sub_zero, Int.reduceSub, Int.reduceAdd, Int.reduceNeg, Int.reduceEq, Int.reduceLT, Int.reduceLE, Int.reduceNe, if_true, if_false, reduceIte, decide_true, decide_false, decide_not, Bool.not_true, Bool.not_false, Bool.not_eq_true, Bool.not_eq_false, Lr.ln] at q ⊢
      refine ⟨fun h => ?_, fun h => ?_⟩
      · simpa [h] using q
      · simpa [h] using q
theorem t__changes {f : Addr} {fd : FuncData}  (F : Fun K "_changes" "_changes" s__changes f fd) (gm : mg "_changes" = some (.ref f)) (hb : Binds K fd ["rule", "road", "age", "rest", "wait", "lines"] []) : Cl P w K mg base (k + 1) "_changes" 6 Lr.W_changes := by
  have nd := sc__changes.nd
  refine def_ok (N := ["rule", "road", "age", "rest", "wait", "lines", "word", "own", "other"]) (ps := ["rule", "road", "age", "rest", "wait", "lines"]) [Sl.un, Sl.un, Sl.un] F sc__changes gm hb ⟨_, fun cdv A outer s H E hr => have hu := hr.units; have hu2 := units65 hr
    (jss_cons (js_set 6 nd (j_ix (jv 0) j_int))
  (jss_cons (js_par2 7 8 rfl nd (jd_cons (j_ix (jv 5) (jv 1)) (jd_cons (j_ix (jv 5) (j_sub j_int (jv 1))) jd_nil)))
  (jss_cons (js_if (jt_eq hu (jv 6) j_str) (jss_one (js_ret (j_ge (jv 2) (j_ix (jv 0) (j_add j_int (jv 1)))))) jss_nil)
  (jss_cons (js_if (jt_eq hu (jv 6) j_str) (jss_one (js_ret (je_and (j_ge (jv 2) (j_ix (jv 0) j_int)) (je_one (j_gt (jv 8) j_int))))) jss_nil)
  (jss_cons (js_if (jt_eq hu (jv 6) j_str) (jss_one (js_ret (je_and (j_gt (jv 8) j_int) (je_one (je_or (j_eq hu (jv 7) j_int) (je_one (j_ge (jv 2) (j_ix (jv 0) j_int)))))))) jss_nil)
  (jss_cons (js_if (jt_eq hu (jv 6) j_str) (jss_one (js_ret (je_and (j_ge (jv 2) (j_ix (jv 0) j_int)) (je_one (j_gt (jv 8) (jv 7)))))) jss_nil)
  (jss_cons (js_if (jt_eq hu (jv 6) j_str) (jss_one (js_ret (je_and (j_gt (jv 8) j_int) (je_one (je_or (j_ge (jv 3) (j_ix (jv 0) j_int)) (je_one (j_ge (jv 2) (j_ix (jv 0) j_int)))))))) jss_nil)
  (jss_one (js_ret (j_ge (jv 4) (j_ix (jv 0) j_int))))))))))), fun as Q hl hW => ?_⟩
  obtain ⟨rule, road, age, rest, wait, a, b, rfl, hr, q⟩ := hW
  rcases hr with rfl | rfl <;> cases rule
  all_goals
    simp only [Lr.lnD, Lr.Rule.d, Lr.changes, Lr.ln, List.map_cons, List.map_nil, aSeq, aLc, iL, iT, iR1, iE, iZ, aSlT, aSlL, aNoP, aPt, wipeE, aIfS, aT, aB, aBO, aC, aSet, aRet, aTup, aLst, aO, dCons, dNil, aCB, aCBO, aOr, aAnd, aNot, aIf, aAndV, aOrV, aNotV, aSkip, aAsg, aAug, ex_vaint, tgN, aCall, gConsA, gNilA, gScA, gTownA, aPar2, aPar3, aV_eq, dI_i, dIC_i, dIx_t, dIx_l, dMin2_i, dMax2_i, dSumT_2, dLen_l, dLen_t, dEq_i, dNe_i, dEq_ni, dEq_in, dIs_i, dIs_n, dIsn_i, dIsn_n, dCat_l, dCatT_t, dListO_l, dListO_t, dTupleO_l, dTupleO_t, tgs2, tgs0, tgt, ite_t, ite_f, ex_l1i, ex_l1l, ex_l2l, ex_l1, ex_l2, ex_l3, ex_int, ex_bool, ex_some, ex_va, ex_ow, ex_sc, ex_list, ex_tuple, at0, at1, at2, at3, ln0, ln1, ln2, ln3, ln4, ln5, ln6, List.cons_append, List.nil_append, List.getElem?_cons_zero, List.getElem?_cons_succ, List.set_cons_zero, List.set_cons_succ, List.length_cons, List.length_nil, true_and, and_true, true_implies, forall_const, Bool.true_eq_false, Bool.false_eq_true, false_implies, decide_eq_true_eq, decide_eq_false_iff_not, Int.sub_self, Int.sub_zero, Int.reduceSub, Int.reduceAdd, Int.reduceNeg, Int.reduceEq, Int.reduceLT, Int.reduceLE, Int.reduceNe, if_true, if_false, reduceIte, decide_true, decide_false, decide_not, Bool.not_true, Bool.not_false, Bool.not_eq_true, Bool.not_eq_false, Lr.wd_asked_asked, Lr.wd_asked_clock, Lr.wd_asked_due, Lr.wd_asked_empty, Lr.wd_asked_gap, Lr.wd_asked_longer, Lr.wd_clock_asked, Lr.wd_clock_clock, Lr.wd_clock_due, Lr.wd_clock_empty, Lr.wd_clock_gap, Lr.wd_clock_longer, Lr.wd_due_asked, Lr.wd_due_clock, Lr.wd_due_due, Lr.wd_due_empty, Lr.wd_due_gap, Lr.wd_due_longer, Lr.wd_empty_asked, Lr.wd_empty_clock, Lr.wd_empty_due, Lr.wd_empty_empty, Lr.wd_empty_gap, Lr.wd_empty_longer, Lr.wd_gap_asked, Lr.wd_gap_clock, Lr.wd_gap_due, Lr.wd_gap_empty, Lr.wd_gap_gap, Lr.wd_gap_longer, Lr.wd_longer_asked, Lr.wd_longer_clock, Lr.wd_longer_due, Lr.wd_longer_empty, Lr.wd_longer_gap, Lr.wd_longer_longer] at q ⊢
    (repeat' (first | exact q | (apply And.intro) | (intro _))) <;> simp_all
theorem t_play_tick {f : Addr} {fd : FuncData} (c__join : Cl P w K mg base k "_join" 3 Lr.W_join) (c__changes : Cl P w K mg base k "_changes" 6 Lr.W_changes) (c__leave : Cl P w K mg base k "_leave" 2 Lr.W_leave) (z_max : mg "max" = none) (F : Fun K "play_tick" "play_tick" s_play_tick f fd) (gm : mg "play_tick" = some (.ref f)) (hb : Binds K fd ["crossing", "rule", "state", "coming"] []) : Cl P w K mg base (k + 1) "play_tick" 4 Lr.W_tick := by
  have nd := sc_play_tick.nd
  refine def_ok (N := ["crossing", "rule", "state", "coming", "room", "pause", "road", "unasked", "age", "rest", "wait", "lines", "lost", "light", "passed"]) (ps := ["crossing", "rule", "state", "coming"]) [Sl.un, Sl.un, Sl.un, Sl.un, Sl.un, Sl.un, Sl.un, Sl.un, Sl.un, Sl.un, Sl.un] F sc_play_tick gm hb ⟨_, fun cdv A outer s H E hr => have hu := hr.units; have hu2 := units65 hr
    (jss_cons (js_asg (jv 0) (jg_tup (n := 2) rfl (jgs_cons (jg_name 4 nd) (jgs_cons (jg_name 5 nd) jgs_nil))))
  (jss_cons (js_asg (jv 2) (jg_tup (n := 6) rfl (jgs_cons (jg_name 6 nd) (jgs_cons (jg_name 7 nd) (jgs_cons (jg_name 8 nd) (jgs_cons (jg_name 9 nd) (jgs_cons (jg_name 10 nd) (jgs_cons (jg_name 11 nd) jgs_nil))))))))
  (jss_cons (js_asg (j_call c__join hr (ja_cons (jv 4) (ja_cons (jv 11) (ja_cons (jv 3) ja_nil)))) (jg_tup (n := 2) rfl (jgs_cons (jg_name 11 nd) (jgs_cons (jg_name 12 nd) jgs_nil))))
  (jss_cons (js_if (JW.t (jw_and (jt_eq hu (jv 7) j_int) (jw_and1 (jt_val (j_call c__changes hr (ja_cons (jv 1) (ja_cons (jv 6) (ja_cons (jv 8) (ja_cons (jv 9) (ja_cons (jv 10) (ja_cons (jv 11) ja_nil))))))))))) (jss_one (js_asg (je_tup (jd_cons (j_sub j_int (jv 6)) (jd_cons (j_add (jv 5) j_int) (jd_cons j_int (jd_cons j_int (jd_cons j_int jd_nil)))))) (jg_tup (n := 5) rfl (jgs_cons (jg_name 6 nd) (jgs_cons (jg_name 7 nd) (jgs_cons (jg_name 8 nd) (jgs_cons (jg_name 9 nd) (jgs_cons (jg_name 10 nd) jgs_nil)))))))) jss_nil)
  (jss_cons (js_set 7 nd (j_bi (call_max2 rfl) sc_max2 z_max (by decide +kernel) (jd_cons j_int (jd_cons (j_sub (jv 7) j_int) jd_nil))))
  (jss_cons (js_set 13 nd (je_if (jt_eq hu (jv 7) j_int) (jv 6) j_non))
  (jss_cons (js_asg (j_call c__leave hr (ja_cons (jv 11) (ja_cons (jv 13) ja_nil))) (jg_tup (n := 2) rfl (jgs_cons (jg_name 11 nd) (jgs_cons (jg_name 14 nd) jgs_nil))))
  (jss_cons (js_if (jt_isn (jv 13) j_non) (jss_cons (js_aug 8 ip_add nd j_int)
  (jss_one (js_set 9 nd (je_if (jt_gt (jv 14) j_int) j_int (j_add (jv 9) j_int))))) jss_nil)
  (jss_cons (js_set 10 nd (je_if (jt_gt (j_ix (jv 11) (j_sub j_int (jv 6))) j_int) (j_add (jv 10) j_int) j_int))
  (jss_one (js_ret (je_tup (jd_cons (je_tup (jd_cons (jv 6) (jd_cons (jv 7) (jd_cons (jv 8) (jd_cons (jv 9) (jd_cons (jv 10) (jd_cons (jv 11) jd_nil))))))) (jd_cons (jv 13) (jd_cons (jv 14) (jd_cons (jv 12) jd_nil)))))))))))))))), fun as Q hl hW => ?_⟩
  obtain ⟨room, pause, rule, s, c, rfl, hc, hs, hk, q⟩ := hW
  obtain ⟨road, left, age, rest, wait, a, b⟩ := s
  obtain ⟨hr, hl, ha, hb⟩ := hs
  have hr' : 1 - road = 0 ∨ 1 - road = 1 := by
    rcases hr with h | h
    · have h : road = 0 := h
      subst h; exact .inr rfl
    · have h : road = 1 := h
      subst h; exact .inl rfl
  simp only [Lr.crD, Lr.Sta.d, List.map_cons, List.map_nil, aSeq, aLc, iL, iT, iR1, iE, iZ, aSlT, aSlL, aNoP, aPt, wipeE, aIfS, aT, aB, aBO, aC, aSet, aRet, aTup, aLst, aO, dCons, dNil, aCB, aCBO, aOr, aAnd, aNot, aIf, aAndV, aOrV, aNotV, aSkip, aAsg, aAug, ex_vaint, tgN, aCall, gConsA, gNilA, gScA, gTownA, aPar2, aPar3, aV_eq, dI_i, dIC_i, dIx_t, dIx_l, dMin2_i, dMax2_i, dSumT_2, dLen_l, dLen_t, dEq_i, dNe_i, dEq_ni, dEq_in, dIs_i, dIs_n, dIsn_i, dIsn_n, dCat_l, dCatT_t, dListO_l, dListO_t, dTupleO_l, dTupleO_t, tgs2, tgs0, tgt, ite_t, ite_f, ex_l1i, ex_l1l, ex_l2l, ex_l1, ex_l2, ex_l3, ex_int, ex_bool, ex_some, ex_va, ex_ow, ex_sc, ex_list, ex_tuple, at0, at1, at2, at3, ln0, ln1, ln2, ln3, ln4, ln5, ln6, List.cons_append, List.nil_append, List.getElem?_cons_zero, List.getElem?_cons_succ, List.set_cons_zero, List.set_cons_succ, List.length_cons, List.length_nil, true_and, and_true, true_implies, forall_const, Bool.true_eq_false, Bool.false_eq_true, false_implies, decide_eq_true_eq, decide_eq_false_iff_not, Int.sub_self, Int.sub_zero, Int.reduceSub, Int.reduceAdd, Int.reduceNeg, Int.reduceEq, Int.reduceLT, Int.reduceLE, Int.reduceNe, if_true, if_false, reduceIte, decide_true, decide_false, decide_not, Bool.not_true, Bool.not_false, Bool.not_eq_true, Bool.not_eq_false, Lr.W_join_i hk, Lr.W_changes_i hr, Lr.W_leave_n, Lr.W_leave_r hr, Lr.W_leave_r hr', Lr.dIx_ln, Lr.ite_max]
  simp only [Lr.tick, Lr.Res.d, Lr.Sta.d] at q
  generalize hlost : a + Lr.bit0 c + (b + Lr.bit1 c) - (min room (a + Lr.bit0 c) + min room (b + Lr.bit1 c)) = lost at q ⊢
  generalize min room (a + Lr.bit0 c) = a1 at q ⊢
  generalize min room (b + Lr.bit1 c) = b1 at q ⊢
  generalize Lr.changes rule road age rest wait a1 b1 = ch at q ⊢
  have mx : max (0 : Int) (-1) = 0 := by decide
  have fin : ∀ {x y : DD}, x = y → Q x → Q y := fun e q => e ▸ q
  clear ha hb hl hc hk hlost hr'
  by_cases hz : left = 0
  · subst hz
    rcases hr with rfl | rfl <;> cases ch
    all_goals
      simp only [List.map_cons, List.map_nil, aSeq, aLc, iL, iT, iR1, iE, iZ, aSlT, aSlL, aNoP, aPt, wipeE, aIfS, aT, aB, aBO, aC, aSet, aRet, aTup, aLst, aO, dCons, dNil, aCB, aCBO, aOr, aAnd, aNot, aIf, aAndV, aOrV, aNotV, aSkip, aAsg, aAug, ex_vaint, tgN, aCall, gConsA, gNilA, gScA, gTownA, aPar2, aPar3, aV_eq, dI_i, dIC_i, dIx_t, dIx_l, dMin2_i, dMax2_i, dSumT_2, dLen_l, dLen_t, dEq_i, dNe_i, dEq_ni, dEq_in, dIs_i, dIs_n, dIsn_i, dIsn_n, dCat_l, dCatT_t, dListO_l, dListO_t, dTupleO_l, dTupleO_t, tgs2, tgs0, tgt, ite_t, ite_f, ex_l1i, ex_l1l, ex_l2l, ex_l1, ex_l2, ex_l3, ex_int, ex_bool, ex_some, ex_va, ex_ow, ex_sc, ex_list, ex_tuple, at0, at1, at2, at3, ln0, ln1, ln2, ln3, ln4, ln5, ln6, List.cons_append, List.nil_append, List.getElem?_cons_zero, List.getElem?_cons_succ, List.set_cons_zero, List.set_cons_succ, List.length_cons, List.length_nil, true_and, and_true, true_implies, forall_const, Bool.true_eq_false, Bool.false_eq_true, false_implies, decide_eq_true_eq, decide_eq_false_iff_not, Int.sub_self, Int.sub_zero, Int.reduceSub, Int.reduceAdd, Int.reduceNeg, Int.reduceEq, Int.reduceLT, Int.reduceLE, Int.reduceNe, if_true, if_false, reduceIte, decide_true, decide_false, decide_not, Bool.not_true, Bool.not_false, Bool.not_eq_true, Bool.not_eq_false, Lr.ln, Bool.and_true, Bool.and_false, Bool.true_and, mx] at q ⊢
    all_goals
      try generalize max 0 (pause + 1 - 1) = l2 at q ⊢
      (repeat' (first | (apply And.intro) | (intro _)))
      all_goals
        first | exact q | (refine fin ?_ q; simp [Lr.Lt.d, *]; done) | (exfalso; simp_all; done)
  · rcases hr with rfl | rfl
    all_goals
      simp only [List.map_cons, List.map_nil, aSeq, aLc, iL, iT, iR1, iE, iZ, aSlT, aSlL, aNoP, aPt, wipeE, aIfS, aT, aB, aBO, aC, aSet, aRet, aTup, aLst, aO, dCons, dNil, aCB, aCBO, aOr, aAnd, aNot, aIf, aAndV, aOrV, aNotV, aSkip, aAsg, aAug, ex_vaint, tgN, aCall, gConsA, gNilA, gScA, gTownA, aPar2, aPar3, aV_eq, dI_i, dIC_i, dIx_t, dIx_l, dMin2_i, dMax2_i, dSumT_2, dLen_l, dLen_t, dEq_i, dNe_i, dEq_ni, dEq_in, dIs_i, dIs_n, dIsn_i, dIsn_n, dCat_l, dCatT_t, dListO_l, dListO_t, dTupleO_l, dTupleO_t, tgs2, tgs0, tgt, ite_t, ite_f, ex_l1i, ex_l1l, ex_l2l, ex_l1, ex_l2, ex_l3, ex_int, ex_bool, ex_some, ex_va, ex_ow, ex_sc, ex_list, ex_tuple, at0, at1, at2, at3, ln0, ln1, ln2, ln3, ln4, ln5, ln6, List.cons_append, List.nil_append, List.getElem?_cons_zero, List.getElem?_cons_succ, List.set_cons_zero, List.set_cons_succ, List.length_cons, List.length_nil, true_and, and_true, true_implies, forall_const, Bool.true_eq_false, Bool.false_eq_true, false_implies, decide_eq_true_eq, decide_eq_false_iff_not, Int.sub_self, Int.sub_zero, Int.reduceSub, Int.reduceAdd, Int.reduceNeg, Int.reduceEq, Int.reduceLT, Int.reduceLE, Int.reduceNe, if_true, if_false, reduceIte, decide_true, decide_false, decide_not, Bool.not_true, Bool.not_false, Bool.not_eq_true, Bool.not_eq_false, Lr.ln, Bool.false_and, hz] at q ⊢
      generalize max 0 (left - 1) = l2 at q ⊢
      (repeat' (first | (apply And.intro) | (intro _)))
      all_goals
        first | exact q | (refine fin ?_ q; simp [Lr.Lt.d, *]; done) | (exfalso; simp_all; done)
theorem t__ticks_along {f : Addr} {fd : FuncData} (c_check_crossing : Cl P w K mg base k "check_crossing" 1 Lr.W_ck_cr) (c_check_rule : Cl P w K mg base k "check_rule" 1 Lr.W_ck_ru) (c_check_comings : Cl P w K mg base k "check_comings" 1 Lr.W_ck_co) (c_first_state : Cl P w K mg base k "first_state" 0 Lr.W_first) (c_play_tick : Cl P w K mg base k "play_tick" 4 Lr.W_tick) (F : Fun K "_ticks_along" "_ticks_along" s__ticks_along f fd) (gm : mg "_ticks_along" = some (.ref f)) (hb : Binds K fd ["crossing", "rule", "comings"] []) : Cl P w K mg base (k + 1) "_ticks_along" 3 Lr.W_ticks := by
  have nd := sc__ticks_along.nd
  refine def_ok (N := ["crossing", "rule", "comings", "state", "ticks", "coming", "light", "passed", "lost", "lines"]) (ps := ["crossing", "rule", "comings"]) [Sl.un, Sl.un, Sl.un, Sl.un, Sl.un, Sl.un, Sl.un] F sc__ticks_along gm hb ⟨_, fun cdv A outer s H E hr => have hu := hr.units; have hu2 := units65 hr
    (jss_cons (js_expr (j_call c_check_crossing hr (ja_cons (jv 0) ja_nil)))
  (jss_cons (js_expr (j_call c_check_rule hr (ja_cons (jv 1) ja_nil)))
  (jss_cons (js_expr (j_call c_check_comings hr (ja_cons (jv 2) ja_nil)))
  (jss_cons (js_set 3 nd (j_call0 c_first_state hr))
  (jss_cons (js_setO 4 nd (jo_lst jd_nil))
  (jss_cons (js_for PassesOwn.never rfl (ji_list (jv 2)) (jg_name 5 nd)
  (jss_cons (js_asg (j_call c_play_tick hr (ja_cons (jv 0) (ja_cons (jv 1) (ja_cons (jv 3) (ja_cons (jv 5) ja_nil))))) (jg_tup (n := 4) rfl (jgs_cons (jg_name 3 nd) (jgs_cons (jg_name 6 nd) (jgs_cons (jg_name 7 nd) (jgs_cons (jg_name 8 nd) jgs_nil))))))
  (jss_cons (js_set 9 nd (j_ix (jv 3) (j_neg j_int)))
  (jss_one (js_app 4 (je_tup (jd_cons (jv 6) (jd_cons (jv 9) (jd_cons (je_tup (jd_cons (jv 7) (jd_cons (jv 8) jd_nil))) jd_nil)))))))))
  (jss_frz 4 (jss_one (js_ret (jv 4)))))))))), fun as Q hl hW => ?_⟩
  obtain ⟨room, pause, rule, cs, rfl, hc, hr, hk, q⟩ := hW
  simp only [List.map_cons, List.map_nil, aSeq, aLc, iL, iT, iR1, iE, iZ, aSlT, aSlL, aNoP, aPt, wipeE, aIfS, aT, aB, aBO, aC, aSet, aRet, aTup, aLst, aO, dCons, dNil, aCB, aCBO, aOr, aAnd, aNot, aIf, aAndV, aOrV, aNotV, aSkip, aAsg, aAug, ex_vaint, tgN, aCall, gConsA, gNilA, gScA, gTownA, aPar2, aPar3, aV_eq, dI_i, dIC_i, dIx_t, dIx_l, dMin2_i, dMax2_i, dSumT_2, dLen_l, dLen_t, dEq_i, dNe_i, dEq_ni, dEq_in, dIs_i, dIs_n, dIsn_i, dIsn_n, dCat_l, dCatT_t, dListO_l, dListO_t, dTupleO_l, dTupleO_t, tgs2, tgs0, tgt, ite_t, ite_f, ex_l1i, ex_l1l, ex_l2l, ex_l1, ex_l2, ex_l3, ex_int, ex_bool, ex_some, ex_va, ex_ow, ex_sc, ex_list, ex_tuple, at0, at1, at2, at3, ln0, ln1, ln2, ln3, ln4, ln5, ln6, List.cons_append, List.nil_append, List.getElem?_cons_zero, List.getElem?_cons_succ, List.set_cons_zero, List.set_cons_succ, List.length_cons, List.length_nil, true_and, and_true, true_implies, forall_const, Bool.true_eq_false, Bool.false_eq_true, false_implies, decide_eq_true_eq, decide_eq_false_iff_not, Int.sub_self, Int.sub_zero, Int.reduceSub, Int.reduceAdd, Int.reduceNeg, Int.reduceEq, Int.reduceLT, Int.reduceLE, Int.reduceNe, if_true, if_false, reduceIte, decide_true, decide_false, decide_not, Bool.not_true, Bool.not_false, Bool.not_eq_true, Bool.not_eq_false, aFor, Lr.W_ck_cr_i hc, Lr.W_ck_ru_i hr, Lr.W_ck_co_i hk, Lr.W_first_i, aDrop, aSetO, Lr.ex_co]
  refine loop_inv (fun ds env => ∃ (ks : List Int) (s : Lr.Sta) (acc : List DD) (x5 x6 x7 x8 x9 : Sl), ds = ks.map PyData.int ∧ env = [.va (Lr.crD room pause), .va rule.d, .va (Lr.coD cs), .va s.d, .ow acc, x5, x6, x7, x8, x9] ∧
    Lr.StaOk room s ∧ (∀ c ∈ ks, Lr.ComOk c) ∧ acc.length + ks.length ≤ 40 ∧ acc ++ (Lr.run room pause rule s ks).map Lr.tkD = (Lr.run room pause rule Lr.sta0 cs).map Lr.tkD) ?_ ?_ _ _ ⟨cs, Lr.sta0, [], .un, .un, .un, .un, .un, rfl, rfl, Lr.sta0_ok hc.1.1, hk.2, by simpa using hk.1, rfl⟩
  · rintro d ds env N ⟨ks, s, acc, x5, x6, x7, x8, x9, e1, rfl, h1, h2, h3, h4⟩ hN
    cases ks with
    | nil => cases e1
    | cons c ks =>
      cases e1
      have hcom := h2 c List.mem_cons_self
      simp only [List.map_cons, List.map_nil, aSeq, aLc, iL, iT, iR1, iE, iZ, aSlT, aSlL, aNoP, aPt, wipeE, aIfS, aT, aB, aBO, aC, aSet, aRet, aTup, aLst, aO, dCons, dNil, aCB, aCBO, aOr, aAnd, aNot, aIf, aAndV, aOrV, aNotV, aSkip, aAsg, aAug, ex_vaint, tgN, aCall, gConsA, gNilA, gScA, gTownA, aPar2, aPar3, aV_eq, dI_i, dIC_i, dIx_t, dIx_l, dMin2_i, dMax2_i, dSumT_2, dLen_l, dLen_t, dEq_i, dNe_i, dEq_ni, dEq_in, dIs_i, dIs_n, dIsn_i, dIsn_n, dCat_l, dCatT_t, dListO_l, dListO_t, dTupleO_l, dTupleO_t, tgs2, tgs0, tgt, ite_t, ite_f, ex_l1i, ex_l1l, ex_l2l, ex_l1, ex_l2, ex_l3, ex_int, ex_bool, ex_some, ex_va, ex_ow, ex_sc, ex_list, ex_tuple, at0, at1, at2, at3, ln0, ln1, ln2, ln3, ln4, ln5, ln6, List.cons_append, List.nil_append, List.getElem?_cons_zero, List.getElem?_cons_succ, List.set_cons_zero, List.set_cons_succ, List.length_cons, List.length_nil, true_and, and_true, true_implies, forall_const, Bool.true_eq_false, Bool.false_eq_true, false_implies, decide_eq_true_eq, decide_eq_false_iff_not, Int.sub_self, Int.sub_zero, Int.reduceSub, Int.reduceAdd, Int.reduceNeg, Int.reduceEq, Int.reduceLT, Int.reduceLE, Int.reduceNe, if_true, if_false, reduceIte, decide_true, decide_false, decide_not, Bool.not_true, Bool.not_false, Bool.not_eq_true, Bool.not_eq_false, Lr.W_tick_i hc h1 hcom, Lr.Res.d, Lr.dIx_staL, aApp, ex_ow]
      rw [List.length_cons] at h3
      refine ⟨lineLt (by omega), hN _ ⟨ks, (Lr.tick room pause rule s c).s, acc ++ [Lr.tkD (Lr.tick room pause rule s c)], _, _, _, _, _, rfl, rfl, Lr.tick_ok hc h1 hcom, fun c hc => h2 c (List.mem_cons_of_mem _ hc), ?_, ?_⟩⟩
      · rw [List.length_append, List.length_cons, List.length_nil]
        omega
      · rw [List.append_assoc]
        exact h4
  · rintro env ⟨ks, s, acc, x5, x6, x7, x8, x9, e1, rfl, h1, h2, h3, h4⟩
    cases ks with
    | cons c ks => cases e1
    | nil =>
      simp only [List.map_cons, List.map_nil, aSeq, aLc, iL, iT, iR1, iE, iZ, aSlT, aSlL, aNoP, aPt, wipeE, aIfS, aT, aB, aBO, aC, aSet, aRet, aTup, aLst, aO, dCons, dNil, aCB, aCBO, aOr, aAnd, aNot, aIf, aAndV, aOrV, aNotV, aSkip, aAsg, aAug, ex_vaint, tgN, aCall, gConsA, gNilA, gScA, gTownA, aPar2, aPar3, aV_eq, dI_i, dIC_i, dIx_t, dIx_l, dMin2_i, dMax2_i, dSumT_2, dLen_l, dLen_t, dEq_i, dNe_i, dEq_ni, dEq_in, dIs_i, dIs_n, dIsn_i, dIsn_n, dCat_l, dCatT_t, dListO_l, dListO_t, dTupleO_l, dTupleO_t, tgs2, tgs0, tgt, ite_t, ite_f, ex_l1i, ex_l1l, ex_l2l, ex_l1, ex_l2, ex_l3, ex_int, ex_bool, ex_some, ex_va, ex_ow, ex_sc, ex_list, ex_tuple, at0, at1, at2, at3, ln0, ln1, ln2, ln3, ln4, ln5, ln6, List.cons_append, List.nil_append, List.getElem?_cons_zero, List.getElem?_cons_succ, List.set_cons_zero, List.set_cons_succ, List.length_cons, List.length_nil, true_and, and_true, true_implies, forall_const, Bool.true_eq_false, Bool.false_eq_true, false_implies, decide_eq_true_eq, decide_eq_false_iff_not, Int.sub_self, Int.sub_zero, Int.reduceSub, Int.reduceAdd, Int.reduceNeg, Int.reduceEq, Int.reduceLT, Int.reduceLE, Int.reduceNe, if_true, if_false, reduceIte, decide_true, decide_false, decide_not, Bool.not_true, Bool.not_false, Bool.not_eq_true, Bool.not_eq_false, aFrz, ex_ow]
      rw [Lr.run, List.map_nil, List.append_nil] at h4
      rw [h4]
      exact q
theorem t_lights_along {f : Addr} {fd : FuncData} (c__ticks_along : Cl P w K mg base k "_ticks_along" 3 Lr.W_ticks) (F : Fun K "lights_along" "lights_along" s_lights_along f fd) (gm : mg "lights_along" = some (.ref f)) (hb : Binds K fd ["crossing", "rule", "comings"] []) : ClO P w K mg base (k + 1) "lights_along" 3 Lr.WO_lights := by
  have nd := sc_lights_along.nd
  refine def_okO (N := ["crossing", "rule", "comings", "tick"]) (ps := ["crossing", "rule", "comings"]) [Sl.un] F sc_lights_along gm hb ⟨_, fun cdv A outer s H E hr => have hu := hr.units; have hu2 := units65 hr
    (jss_one (js_retO (j_lc (own := [("tick", 3)]) rfl nd (ji_list (j_call c__ticks_along hr (ja_cons (jv 0) (ja_cons (jv 1) (ja_cons (jv 2) ja_nil))))) (blkOk_by (N := ["crossing", "rule", "comings", "tick"]) (sc := defScope s_lights_along) (by decide +kernel)) (fun _ _ _ _ _ => pg_name (i := 3) nd rfl (by first | exact Or.inl rfl | exact Or.inr rfl)) simgw_name (fun _ _ _ _ _ => (j_ix (jv 3) j_int))))), fun as Q hl hW => ?_⟩
  obtain ⟨room, pause, rule, cs, rfl, hc, hr, hk, q⟩ := hW
  simp only [List.map_cons, List.map_nil, aSeq, aLc, iL, iT, iR1, iE, iZ, aSlT, aSlL, aNoP, aPt, wipeE, aIfS, aT, aB, aBO, aC, aSet, aRet, aTup, aLst, aO, dCons, dNil, aCB, aCBO, aOr, aAnd, aNot, aIf, aAndV, aOrV, aNotV, aSkip, aAsg, aAug, ex_vaint, tgN, aCall, gConsA, gNilA, gScA, gTownA, aPar2, aPar3, aV_eq, dI_i, dIC_i, dIx_t, dIx_l, dMin2_i, dMax2_i, dSumT_2, dLen_l, dLen_t, dEq_i, dNe_i, dEq_ni, dEq_in, dIs_i, dIs_n, dIsn_i, dIsn_n, dCat_l, dCatT_t, dListO_l, dListO_t, dTupleO_l, dTupleO_t, tgs2, tgs0, tgt, ite_t, ite_f, ex_l1i, ex_l1l, ex_l2l, ex_l1, ex_l2, ex_l3, ex_int, ex_bool, ex_some, ex_va, ex_ow, ex_sc, ex_list, ex_tuple, at0, at1, at2, at3, ln0, ln1, ln2, ln3, ln4, ln5, ln6, List.cons_append, List.nil_append, List.getElem?_cons_zero, List.getElem?_cons_succ, List.set_cons_zero, List.set_cons_succ, List.length_cons, List.length_nil, true_and, and_true, true_implies, forall_const, Bool.true_eq_false, Bool.false_eq_true, false_implies, decide_eq_true_eq, decide_eq_false_iff_not, Int.sub_self, Int.sub_zero, Int.reduceSub, Int.reduceAdd, Int.reduceNeg, Int.reduceEq, Int.reduceLT, Int.reduceLE, Int.reduceNe, if_true, if_false, reduceIte, decide_true, decide_false, decide_not, Bool.not_true, Bool.not_false, Bool.not_eq_true, Bool.not_eq_false, aFld, aCallO, aRetO, aRetE, Lr.W_ticks_i hc hr hk]
  refine ⟨lineLe (by rw [List.length_map, Lr.run_len]; have := hk.1; omega), coll_map (fun d => match d with | .tuple [a, b, c] => a | _ => .none) _ [] (fun d hd Q q => ?_) ?_⟩
  · obtain ⟨r, _, rfl⟩ := List.mem_map.mp hd
    simp only [List.map_cons, List.map_nil, aSeq, aLc, iL, iT, iR1, iE, iZ, aSlT, aSlL, aNoP, aPt, wipeE, aIfS, aT, aB, aBO, aC, aSet, aRet, aTup, aLst, aO, dCons, dNil, aCB, aCBO, aOr, aAnd, aNot, aIf, aAndV, aOrV, aNotV, aSkip, aAsg, aAug, ex_vaint, tgN, aCall, gConsA, gNilA, gScA, gTownA, aPar2, aPar3, aV_eq, dI_i, dIC_i, dIx_t, dIx_l, dMin2_i, dMax2_i, dSumT_2, dLen_l, dLen_t, dEq_i, dNe_i, dEq_ni, dEq_in, dIs_i, dIs_n, dIsn_i, dIsn_n, dCat_l, dCatT_t, dListO_l, dListO_t, dTupleO_l, dTupleO_t, tgs2, tgs0, tgt, ite_t, ite_f, ex_l1i, ex_l1l, ex_l2l, ex_l1, ex_l2, ex_l3, ex_int, ex_bool, ex_some, ex_va, ex_ow, ex_sc, ex_list, ex_tuple, at0, at1, at2, at3, ln0, ln1, ln2, ln3, ln4, ln5, ln6, List.cons_append, List.nil_append, List.getElem?_cons_zero, List.getElem?_cons_succ, List.set_cons_zero, List.set_cons_succ, List.length_cons, List.length_nil, true_and, and_true, true_implies, forall_const, Bool.true_eq_false, Bool.false_eq_true, false_implies, decide_eq_true_eq, decide_eq_false_iff_not, Int.sub_self, Int.sub_zero, Int.reduceSub, Int.reduceAdd, Int.reduceNeg, Int.reduceEq, Int.reduceLT, Int.reduceLE, Int.reduceNe, if_true, if_false, reduceIte, decide_true, decide_false, decide_not, Bool.not_true, Bool.not_false, Bool.not_eq_true, Bool.not_eq_false, Lr.tkD] at q ⊢
    exact q
  · rw [List.nil_append, List.map_map]
    rw [Lr.lights, List.map_map] at q
    exact q
theorem t_Desk_lights {f : Addr} {fd : FuncData} (c_lights_along : ClO P w K mg base k "lights_along" 3 Lr.WO_lights) (F : Fun K "lights" "Desk.lights" s_Desk_lights f fd) : FnOk P w K mg base CX0 (k + 1) f fd ["self"] (spSelf ⟨K, P, w⟩ 1 Lr.WD_lights) := by
  have nd := sc_Desk_lights.nd
  refine def_fnL (N := ["self"]) (ps := ["self"]) [] F sc_Desk_lights ⟨_, fun cdv A outer s H E hr => have hu := hr.units; have hu2 := units65 hr
    (jss_one (js_retCallO c_lights_along hr (ja_cons (je_fld 0) (ja_cons (je_fld 0) (ja_cons (je_fld 0) ja_nil))))), fun as Q QO hl hW => ?_⟩
  obtain ⟨C, a, dx, l1, l2, c, rfl, ⟨hc, hr, hk⟩, q⟩ := hW
  exact ⟨_, _, rfl, Lr.fld_crossing, _, _, rfl, Lr.fld_rule, _, _, rfl, Lr.fld_comings, rfl, _, _, _, _, rfl, hc, hr, hk, q⟩
theorem t_check_coming {f : Addr} {fd : FuncData} (c_is_number : Cl P w K mg base k "is_number" 3 Lr.W_is_number) (F : Fun K "check_coming" "check_coming" s_check_coming f fd) (gm : mg "check_coming" = some (.ref f)) (hb : Binds K fd ["coming"] []) : Cl P w K mg base (k + 1) "check_coming" 1 Lr.W_ck_kind := by
  have nd := sc_check_coming.nd
  refine def_ok (N := ["coming"]) (ps := ["coming"]) [] F sc_check_coming gm hb ⟨_, fun cdv A outer s H E hr => have hu := hr.units; have hu2 := units65 hr
    (jss_one (js_if (jt_not (jt_val (j_call c_is_number hr (ja_cons (jv 0) (ja_cons j_int (ja_cons j_int ja_nil)))))) jss_never jss_nil)), fun as Q hl hW => ?_⟩
  obtain ⟨k, rfl, hk, q⟩ := hW
  have e : Lr.isNum 0 3 (.int k) = true := by
    simp only [Lr.isNum]
    simpa [Lr.ComOk] using hk
  simp only [List.map_cons, List.map_nil, aSeq, aLc, iL, iT, iR1, iE, iZ, aSlT, aSlL, aNoP, aPt, wipeE, aIfS, aT, aB, aBO, aC, aSet, aRet, aTup, aLst, aO, dCons, dNil, aCB, aCBO, aOr, aAnd, aNot, aIf, aAndV, aOrV, aNotV, aSkip, aAsg, aAug, ex_vaint, tgN, aCall, gConsA, gNilA, gScA, gTownA, aPar2, aPar3, aV_eq, dI_i, dIC_i, dIx_t, dIx_l, dMin2_i, dMax2_i, dSumT_2, dLen_l, dLen_t, dEq_i, dNe_i, dEq_ni, dEq_in, dIs_i, dIs_n, dIsn_i, dIsn_n, dCat_l, dCatT_t, dListO_l, dListO_t, dTupleO_l, dTupleO_t, tgs2, tgs0, tgt, ite_t, ite_f, ex_l1i, ex_l1l, ex_l2l, ex_l1, ex_l2, ex_l3, ex_int, ex_bool, ex_some, ex_va, ex_ow, ex_sc, ex_list, ex_tuple, at0, at1, at2, at3, ln0, ln1, ln2, ln3, ln4, ln5, ln6, List.cons_append, List.nil_append, List.getElem?_cons_zero, List.getElem?_cons_succ, List.set_cons_zero, List.set_cons_succ, List.length_cons, List.length_nil, true_and, and_true, true_implies, forall_const, Bool.true_eq_false, Bool.false_eq_true, false_implies, decide_eq_true_eq, decide_eq_false_iff_not, Int.sub_self, Int.sub_zero, Int.reduceSub, Int.reduceAdd, Int.reduceNeg, Int.reduceEq, Int.reduceLT, Int.reduceLE, Int.reduceNe, if_true, if_false, reduceIte, decide_true, decide_false, decide_not, Bool.not_true, Bool.not_false, Bool.not_eq_true, Bool.not_eq_false, Lr.W_is_number_i, e]
  exact q
theorem t_Desk_tick {f : Addr} {fd : FuncData} {j : Nat} (hj : j + 1 ≤ k) {C : Addr} (hC : Lr.DkCls K C) (c_check_coming : Cl P w K mg base k "check_coming" 1 Lr.W_ck_kind) (z_len : mg "len" = none) (g_MOST_TICKS : ∃ t, mg "MOST_TICKS" = some (.int 40 t)) (m_lights : ClR P w K mg base k C "lights" 1 Lr.WD_lights) (F : Fun K "tick" "Desk.tick" s_Desk_tick f fd) : FnOk P w K mg base CX0 (k + 1) f fd ["self", "coming"] (spMut ⟨K, P, w⟩ 2 (Lr.WM_tick C)) := by
  have nd := sc_Desk_tick.nd
  refine def_fnM (N := ["self", "coming"]) (ps := ["self", "coming"]) [] F sc_Desk_tick ⟨_, fun cdv A outer s H E hr => have hu := hr.units; have hu2 := units65 hr
    (jss_cons (js_expr (j_call c_check_coming hr (ja_cons (jv 1) ja_nil)))
  (jss_cons (js_if (jt_eq hu (Lr.je_flen 0 true z_len PySem.boot_len) (j_glob g_MOST_TICKS)) jss_never jss_nil)
  (jss_cons (Lr.js_fapp 0 true (jv 1))
  (jss_cons (Lr.js_fclr 0 false)
  (jss_one (js_retE (j_ix (j_methR 0 hC.cls m_lights hr) (j_neg j_int)))))))), fun φ as Q hl hW ow => ?_⟩
  obtain ⟨a, dx, l1, l2, c, e, ee, hnd, ⟨hc, hr, hk⟩, he, hlen, q⟩ := hW
  injection ee with e1 e2
  injection e1 with e1
  subst e1 e2
  simp only [List.map_cons, List.map_nil, aSeq, aLc, iL, iT, iR1, iE, iZ, aSlT, aSlL, aNoP, aPt, wipeE, aIfS, aT, aB, aBO, aC, aSet, aRet, aTup, aLst, aO, dCons, dNil, aCB, aCBO, aOr, aAnd, aNot, aIf, aAndV, aOrV, aNotV, aSkip, aAsg, aAug, ex_vaint, tgN, aCall, gConsA, gNilA, gScA, gTownA, aPar2, aPar3, aV_eq, dI_i, dIC_i, dIx_t, dIx_l, dMin2_i, dMax2_i, dSumT_2, dLen_l, dLen_t, dEq_i, dNe_i, dEq_ni, dEq_in, dIs_i, dIs_n, dIsn_i, dIsn_n, dCat_l, dCatT_t, dListO_l, dListO_t, dTupleO_l, dTupleO_t, tgs2, tgs0, tgt, ite_t, ite_f, ex_l1i, ex_l1l, ex_l2l, ex_l1, ex_l2, ex_l3, ex_int, ex_bool, ex_some, ex_va, ex_ow, ex_sc, ex_list, ex_tuple, at0, at1, at2, at3, ln0, ln1, ln2, ln3, ln4, ln5, ln6, List.cons_append, List.nil_append, List.getElem?_cons_zero, List.getElem?_cons_succ, List.set_cons_zero, List.set_cons_succ, List.length_cons, List.length_nil, true_and, and_true, true_implies, forall_const, Bool.true_eq_false, Bool.false_eq_true, false_implies, decide_eq_true_eq, decide_eq_false_iff_not, Int.sub_self, Int.sub_zero, Int.reduceSub, Int.reduceAdd, Int.reduceNeg, Int.reduceEq, Int.reduceLT, Int.reduceLE, Int.reduceNe, if_true, if_false, reduceIte, decide_true, decide_false, decide_not, Bool.not_true, Bool.not_false, Bool.not_eq_true, Bool.not_eq_false, aFld, aCallO, aRetO, aRetE, aDrop, Lr.aFLen, Lr.aFApp, Lr.aFClr, aMeth0, Lr.W_ck_kind_i he]
  refine ⟨_, _, _, _, _, _, rfl, fun z => absurd z (by show ¬ ((c.cs.length : Int) = 40); omega), fun _ => ⟨_, _, _, _, _, _, rfl, rfl, (by show c.cs.length < 1000; omega), _, _, _, _, _, _, rfl, rfl, _, _, _, rfl, Lr.dk_rd ⟨by decide +kernel, by decide +kernel, by decide +kernel, by decide +kernel⟩ hnd, ?_⟩⟩
  have hk2 : Lr.CosOk (c.cs ++ [e]) := ⟨by rw [List.length_append]; simp; omega, fun z hz => by
    rcases List.mem_append.mp hz with hz | hz
    · exact hk.2 z hz
    · rw [List.mem_singleton.mp hz]; exact he⟩
  refine ⟨C, a, dx, l1, l2, _, rfl, ⟨hc, hr, hk2⟩, ?_⟩
  obtain ⟨xs, x, ex⟩ : ∃ xs x, (Lr.lights c.room c.pause c.rule (c.cs ++ [e])).map Lr.Lt.d = xs ++ [x] := Lr.last_map fun y => by
    have := congrArg List.length y
    rw [Lr.lights_len] at this
    simp at this
  show keyDs ((Lr.lights c.room c.pause c.rule (c.cs ++ [e])).map Lr.Lt.d) = true ∧ ∃ d, atI ((Lr.lights c.room c.pause c.rule (c.cs ++ [e])).map Lr.Lt.d) (-1) = some d ∧ _
  refine ⟨Lr.key_lts _, x, by rw [ex]; exact Ab.atI_last xs x, _, rfl, Lr.dk_to, ?_⟩
  unfold Lr.lastD at q
  rw [ex, List.getLast?_concat] at q
  exact q
theorem t_Desk_undo {f : Addr} {fd : FuncData} {C : Addr} (hC : Lr.DkCls K C) (z_len : mg "len" = none) (E_NothingToUndo : ExcF K mg "NothingToUndo" C_NothingToUndo) (F : Fun K "undo" "Desk.undo" s_Desk_undo f fd) : FnOk P w K mg base (L2.CX P w) (k + 1) f fd ["self"] (spMutX ⟨K, P, w⟩ 1 (Lr.WX_undo C C_NothingToUndo)) := by
  have nd := sc_Desk_undo.nd
  refine def_fnMX (N := ["self", "coming"]) (ps := ["self"]) [Sl.un] F sc_Desk_undo ⟨_, fun cdv A outer s H E hr => have hu := hr.units; have hu2 := units65 hr
    (jsx_cons (js_ifX (jt_eq hu (Lr.je_flen 0 true z_len PySem.boot_len) j_int) (jsx_one (js_raiseX rfl E_NothingToUndo)) jsx_nil)
  (JSs.toX (jss_cons (Lr.js_fpop 1 0 true nd) (jss_cons (Lr.js_fapp 0 false (jv 1)) (jss_one (js_retE (jv 1))))))), fun φ as Q PE hl hW ow => ?_⟩
  obtain ⟨a, dx, l1, l2, c, e0, sm, h1, h2⟩ := hW
  obtain ⟨e0, e1⟩ := List.cons.inj e0
  cases e0
  subst e1
  simp only [aSeqX, aIfX, Lr.aFLen, Lr.aFPop, Lr.aFApp, aRetE, List.map_cons, List.map_nil, aSeq, aLc, iL, iT, iR1, iE, iZ, aSlT, aSlL, aNoP, aPt, wipeE, aIfS, aT, aB, aBO, aC, aSet, aRet, aTup, aLst, aO, dCons, dNil, aCB, aCBO, aOr, aAnd, aNot, aIf, aAndV, aOrV, aNotV, aSkip, aAsg, aAug, ex_vaint, tgN, aCall, gConsA, gNilA, gScA, gTownA, aPar2, aPar3, aV_eq, dI_i, dIC_i, dIx_t, dIx_l, dMin2_i, dMax2_i, dSumT_2, dLen_l, dLen_t, dEq_i, dNe_i, dEq_ni, dEq_in, dIs_i, dIs_n, dIsn_i, dIsn_n, dCat_l, dCatT_t, dListO_l, dListO_t, dTupleO_l, dTupleO_t, tgs2, tgs0, tgt, ite_t, ite_f, ex_l1i, ex_l1l, ex_l2l, ex_l1, ex_l2, ex_l3, ex_int, ex_bool, ex_some, ex_va, ex_ow, ex_sc, ex_list, ex_tuple, at0, at1, at2, at3, ln0, ln1, ln2, ln3, ln4, ln5, ln6, List.cons_append, List.nil_append, List.getElem?_cons_zero, List.getElem?_cons_succ, List.set_cons_zero, List.set_cons_succ, List.length_cons, List.length_nil, true_and, and_true, true_implies, forall_const, Bool.true_eq_false, Bool.false_eq_true, false_implies, decide_eq_true_eq, decide_eq_false_iff_not, Int.sub_self, Int.sub_zero, Int.reduceSub, Int.reduceAdd, Int.reduceNeg, Int.reduceEq, Int.reduceLT, Int.reduceLE, Int.reduceNe, if_true, if_false, reduceIte, decide_true, decide_false, decide_not, Bool.not_true, Bool.not_false, Bool.not_eq_true, Bool.not_eq_false]
  refine ⟨C, a, dx, l1, l2, c, rfl, fun z => h2 (List.length_eq_zero_iff.mp (by exact Int.ofNat.inj z)), fun z => ?_⟩
  obtain ⟨xs, k, e⟩ := Lr.snoc_ex (l := c.get true) (fun w => z (by rw [w]; rfl))
  have hu1 : (c.get true).length + (c.get false).length ≤ 40 := by have := sm.1; exact this
  exact ⟨C, a, dx, l1, l2, c, xs, k, rfl, rfl, e, C, a, dx, l1, l2, _, rfl, rfl, (show (c.get false).length < 1000 by omega), _, rfl, Lr.dk_to, h1 xs k e⟩
theorem t_Desk_redo {f : Addr} {fd : FuncData} {C : Addr} (hC : Lr.DkCls K C) (z_len : mg "len" = none) (E_NothingToUndo : ExcF K mg "NothingToUndo" C_NothingToUndo) (F : Fun K "redo" "Desk.redo" s_Desk_redo f fd) : FnOk P w K mg base (L2.CX P w) (k + 1) f fd ["self"] (spMutX ⟨K, P, w⟩ 1 (Lr.WX_redo C C_NothingToUndo)) := by
  have nd := sc_Desk_redo.nd
  refine def_fnMX (N := ["self", "coming"]) (ps := ["self"]) [Sl.un] F sc_Desk_redo ⟨_, fun cdv A outer s H E hr => have hu := hr.units; have hu2 := units65 hr
    (jsx_cons (js_ifX (jt_eq hu (Lr.je_flen 0 false z_len PySem.boot_len) j_int) (jsx_one (js_raiseX rfl E_NothingToUndo)) jsx_nil)
  (JSs.toX (jss_cons (Lr.js_fpop 1 0 false nd) (jss_cons (Lr.js_fapp 0 true (jv 1)) (jss_one (js_retE (jv 1))))))), fun φ as Q PE hl hW ow => ?_⟩
  obtain ⟨a, dx, l1, l2, c, e0, sm, h1, h2⟩ := hW
  obtain ⟨e0, e1⟩ := List.cons.inj e0
  cases e0
  subst e1
  simp only [aSeqX, aIfX, Lr.aFLen, Lr.aFPop, Lr.aFApp, aRetE, List.map_cons, List.map_nil, aSeq, aLc, iL, iT, iR1, iE, iZ, aSlT, aSlL, aNoP, aPt, wipeE, aIfS, aT, aB, aBO, aC, aSet, aRet, aTup, aLst, aO, dCons, dNil, aCB, aCBO, aOr, aAnd, aNot, aIf, aAndV, aOrV, aNotV, aSkip, aAsg, aAug, ex_vaint, tgN, aCall, gConsA, gNilA, gScA, gTownA, aPar2, aPar3, aV_eq, dI_i, dIC_i, dIx_t, dIx_l, dMin2_i, dMax2_i, dSumT_2, dLen_l, dLen_t, dEq_i, dNe_i, dEq_ni, dEq_in, dIs_i, dIs_n, dIsn_i, dIsn_n, dCat_l, dCatT_t, dListO_l, dListO_t, dTupleO_l, dTupleO_t, tgs2, tgs0, tgt, ite_t, ite_f, ex_l1i, ex_l1l, ex_l2l, ex_l1, ex_l2, ex_l3, ex_int, ex_bool, ex_some, ex_va, ex_ow, ex_sc, ex_list, ex_tuple, at0, at1, at2, at3, ln0, ln1, ln2, ln3, ln4, ln5, ln6, List.cons_append, List.nil_append, List.getElem?_cons_zero, List.getElem?_cons_succ, List.set_cons_zero, List.set_cons_succ, List.length_cons, List.length_nil, true_and, and_true, true_implies, forall_const, Bool.true_eq_false, Bool.false_eq_true, false_implies, decide_eq_true_eq, decide_eq_false_iff_not, Int.sub_self, Int.sub_zero, Int.reduceSub, Int.reduceAdd, Int.reduceNeg, Int.reduceEq, Int.reduceLT, Int.reduceLE, Int.reduceNe, if_true, if_false, reduceIte, decide_true, decide_false, decide_not, Bool.not_true, Bool.not_false, Bool.not_eq_true, Bool.not_eq_false]
  refine ⟨C, a, dx, l1, l2, c, rfl, fun z => h2 (List.length_eq_zero_iff.mp (by exact Int.ofNat.inj z)), fun z => ?_⟩
  obtain ⟨xs, k, e⟩ := Lr.snoc_ex (l := c.get false) (fun w => z (by rw [w]; rfl))
  have hu1 : (c.get false).length + (c.get true).length ≤ 40 := by have := sm.1; show c.un.length + c.cs.length ≤ 40; omega
  exact ⟨C, a, dx, l1, l2, c, xs, k, rfl, rfl, e, C, a, dx, l1, l2, _, rfl, rfl, (show (c.get true).length < 1000 by omega), _, rfl, Lr.dk_to, h1 xs k e⟩
theorem t_Desk_copy {f : Addr} {fd : FuncData} {j : Nat} (hj : j + 1 ≤ k) {C : Addr} (hC : Lr.DkCls K C) (c_Desk : ClN P w K mg base j "Desk" C 3 Lr.WM_init) (z_list : mg "list" = none) (F : Fun K "copy" "Desk.copy" s_Desk_copy f fd) : FnOk P w K mg base CX0 (k + 1) f fd ["self"] (spSelfN ⟨K, P, w⟩ 1 (Lr.W_copy C)) := by
  have nd := sc_Desk_copy.nd
  refine def_fnSN (N := ["self", "desk"]) (ps := ["self"]) [Sl.un] F sc_Desk_copy ⟨_, fun cdv A outer s H E hr => have hu := hr.units; have hu2 := units65 hr
    (jls_cons (js_setN 1 nd (Lr.jn_make hC c_Desk (hr.mono hj) (ja_cons (je_fld 0) (ja_cons (je_fld 0) ja_nil))))
  (jls_cons (Lr.js_fput 1 true (j_tyO call_list_of sc_list z_list (by decide +kernel) (jd_cons (je_fld 0) jd_nil)))
  (jls_cons (Lr.js_fput 1 false (j_tyO call_list_of sc_list z_list (by decide +kernel) (jd_cons (je_fld 0) jd_nil))) (jls_ret 1)))), fun φ as Q hl hW => ?_⟩
  obtain ⟨a, dx, l1, l2, c, e0, ok, q⟩ := hW
  obtain ⟨e0, e1⟩ := List.cons.inj e0
  cases e0
  subst e1
  simp only [aSeqL, aSetN, Lr.aMkN, aFld, List.map_cons, List.map_nil, aSeq, aLc, iL, iT, iR1, iE, iZ, aSlT, aSlL, aNoP, aPt, wipeE, aIfS, aT, aB, aBO, aC, aSet, aRet, aTup, aLst, aO, dCons, dNil, aCB, aCBO, aOr, aAnd, aNot, aIf, aAndV, aOrV, aNotV, aSkip, aAsg, aAug, ex_vaint, tgN, aCall, gConsA, gNilA, gScA, gTownA, aPar2, aPar3, aV_eq, dI_i, dIC_i, dIx_t, dIx_l, dMin2_i, dMax2_i, dSumT_2, dLen_l, dLen_t, dEq_i, dNe_i, dEq_ni, dEq_in, dIs_i, dIs_n, dIsn_i, dIsn_n, dCat_l, dCatT_t, dListO_l, dListO_t, dTupleO_l, dTupleO_t, tgs2, tgs0, tgt, ite_t, ite_f, ex_l1i, ex_l1l, ex_l2l, ex_l1, ex_l2, ex_l3, ex_int, ex_bool, ex_some, ex_va, ex_ow, ex_sc, ex_list, ex_tuple, at0, at1, at2, at3, ln0, ln1, ln2, ln3, ln4, ln5, ln6, List.cons_append, List.nil_append, List.getElem?_cons_zero, List.getElem?_cons_succ, List.set_cons_zero, List.set_cons_succ, List.length_cons, List.length_nil, true_and, and_true, true_implies, forall_const, Bool.true_eq_false, Bool.false_eq_true, false_implies, decide_eq_true_eq, decide_eq_false_iff_not, Int.sub_self, Int.sub_zero, Int.reduceSub, Int.reduceAdd, Int.reduceNeg, Int.reduceEq, Int.reduceLT, Int.reduceLE, Int.reduceNe, if_true, if_false, reduceIte, decide_true, decide_false, decide_not, Bool.not_true, Bool.not_false, Bool.not_eq_true, Bool.not_eq_false]
  refine ⟨by decide, _, _, rfl, Lr.fld_crossing, _, _, rfl, Lr.fld_rule, c.room, c.pause, c.rule, rfl, ok.1, ok.2.1, fun a1 dx1 m1 m2 nd1 ap => ?_⟩
  have ap0 := ap 0 (Lr.dkR C a dx l1 l2 c) rfl
  simp only [Lr.aFPut, aSeqL, aFld, List.map_cons, List.map_nil, aSeq, aLc, iL, iT, iR1, iE, iZ, aSlT, aSlL, aNoP, aPt, wipeE, aIfS, aT, aB, aBO, aC, aSet, aRet, aTup, aLst, aO, dCons, dNil, aCB, aCBO, aOr, aAnd, aNot, aIf, aAndV, aOrV, aNotV, aSkip, aAsg, aAug, ex_vaint, tgN, aCall, gConsA, gNilA, gScA, gTownA, aPar2, aPar3, aV_eq, dI_i, dIC_i, dIx_t, dIx_l, dMin2_i, dMax2_i, dSumT_2, dLen_l, dLen_t, dEq_i, dNe_i, dEq_ni, dEq_in, dIs_i, dIs_n, dIsn_i, dIsn_n, dCat_l, dCatT_t, dListO_l, dListO_t, dTupleO_l, dTupleO_t, tgs2, tgs0, tgt, ite_t, ite_f, ex_l1i, ex_l1l, ex_l2l, ex_l1, ex_l2, ex_l3, ex_int, ex_bool, ex_some, ex_va, ex_ow, ex_sc, ex_list, ex_tuple, at0, at1, at2, at3, ln0, ln1, ln2, ln3, ln4, ln5, ln6, List.cons_append, List.nil_append, List.getElem?_cons_zero, List.getElem?_cons_succ, List.set_cons_zero, List.set_cons_succ, List.length_cons, List.length_nil, true_and, and_true, true_implies, forall_const, Bool.true_eq_false, Bool.false_eq_true, false_implies, decide_eq_true_eq, decide_eq_false_iff_not, Int.sub_self, Int.sub_zero, Int.reduceSub, Int.reduceAdd, Int.reduceNeg, Int.reduceEq, Int.reduceLT, Int.reduceLE, Int.reduceNe, if_true, if_false, reduceIte, decide_true, decide_false, decide_not, Bool.not_true, Bool.not_false, Bool.not_eq_true, Bool.not_eq_false]
  refine ⟨_, _, rfl, Lr.fld_comings, c.cs.map PyData.int, .inl rfl, C, a1, dx1, m1, m2, _, c.cs, rfl, fun j ψ hj e => ?_, rfl, fun r1 nd2 ap2 => ?_⟩
  · match j, hj, e with
    | 0, _, e => exact ap 0 ψ e
    | 1, hj, _ => exact absurd rfl hj
    | j + 2, _, e => simp at e
  have ap1 := ap2 0 _ (by decide) rfl
  refine ⟨_, _, rfl, Lr.fld_undone, c.un.map PyData.int, .inl rfl, C, a1, dx1, _, _, _, c.un, rfl, fun j ψ hj e x hx => ?_, rfl, fun r2 nd3 ap3 => ?_⟩
  · match j, hj, e with
    | 0, _, e =>
      cases Option.some.inj e
      have h1 := ap0 x hx
      intro hz
      simp only [Lr.dkM, Lr.dkT, List.mem_cons, List.not_mem_nil, or_false, not_or] at h1 hz
      rcases hz with h | h | h | h
      · exact h1.1 h
      · exact h1.2.1 h
      · rw [h] at hx; exact ap1 hx
      · exact h1.2.2.2 h
    | 1, hj, _ => exact absurd rfl hj
    | j + 2, _, e => simp at e
  exact ⟨_, rfl, rfl, q a1 dx1 r1 r2 nd3⟩
theorem t__law_draw {f : Addr} {fd : FuncData}  (z_len : mg "len" = none) (F : Fun K "_law_draw" "_law_draw" s__law_draw f fd) (gm : mg "_law_draw" = some (.ref f)) (hb : Binds K fd ["_law_script", "_law_town", "_law_many"] []) : Cl P w K mg base (k + 1) "_law_draw" 3 Lr.W_draw := by
  have nd := sc__law_draw.nd
  refine def_ok (N := ["_law_script", "_law_town", "_law_many", "_law_one", "_law_at", "_law_mixed"]) (ps := ["_law_script", "_law_town", "_law_many"]) [Sl.un, Sl.un, Sl.un] F sc__law_draw gm hb ⟨_, fun cdv A outer s H E hr => have hu := hr.units; have hu2 := units65 hr
    (jss_cons (js_if (jt_gt (j_tw1 1) j_int) (jss_cons (js_set 3 nd (j_mod (j_tw1 1) (jv 2)))
  (jss_cons (js_setTw1 1 (j_fdiv (j_tw1 1) (jv 2)))
  (jss_one (js_ret (jv 3))))) jss_nil)
  (jss_cons (js_set 4 nd (j_tw0 1))
  (jss_cons (js_augTw0 1)
  (jss_cons (js_if (jt_scNil 0 hu) (jss_one (js_ret (j_mod (jv 4) (jv 2)))) jss_nil)
  (jss_cons (js_if (JW.t (jw_and (jt_lt (jv 4) (j_scLen 0 z_len PySem.boot_len)) (jw_and1 (jt_ge (j_scIx 0 (jv 4)) (j_pow j_int j_int))))) (jss_cons (js_setTw1 1 (j_mod (j_fdiv (j_scIx 0 (jv 4)) (jv 2)) (j_mulW (j_pow j_int j_int) (j_pow j_int j_int))))
  (jss_one (js_ret (j_mod (j_scIx 0 (jv 4)) (jv 2))))) jss_nil)
  (jss_cons (js_set 5 nd (j_mod (j_add (j_add (j_mulW (j_scIx 0 (j_mod (jv 4) (j_scLen 0 z_len PySem.boot_len))) j_int) (j_mulW j_int (jv 4))) j_int) j_int))
  (jss_one (js_ret (j_mod (j_mod (j_mod (j_pow (jv 5) j_int) j_int) j_int) (jv 2)))))))))), fun as Q hl hW => ?_⟩
  obtain ⟨ns, many, rfl, h0, h1, q⟩ := hW
  have hmod : ∀ x : Int, Q (.int (x % many)) := fun x => q _ (Int.emod_nonneg x (by omega)) (Int.emod_lt_of_pos x h0)
  have hdiv : ∀ x : Int, CDiv x many := fun x => ⟨h0, by omega⟩
  simp only [List.map_cons, List.map_nil, aSeq, aLc, iL, iT, iR1, iE, iZ, aSlT, aSlL, aNoP, aPt, wipeE, aIfS, aT, aB, aBO, aC, aSet, aRet, aTup, aLst, aO, dCons, dNil, aCB, aCBO, aOr, aAnd, aNot, aIf, aAndV, aOrV, aNotV, aSkip, aAsg, aAug, ex_vaint, tgN, aCall, gConsA, gNilA, gScA, gTownA, aPar2, aPar3, aV_eq, dI_i, dIC_i, dIx_t, dIx_l, dMin2_i, dMax2_i, dSumT_2, dLen_l, dLen_t, dEq_i, dNe_i, dEq_ni, dEq_in, dIs_i, dIs_n, dIsn_i, dIsn_n, dCat_l, dCatT_t, dListO_l, dListO_t, dTupleO_l, dTupleO_t, tgs2, tgs0, tgt, ite_t, ite_f, ex_l1i, ex_l1l, ex_l2l, ex_l1, ex_l2, ex_l3, ex_int, ex_bool, ex_some, ex_va, ex_ow, ex_sc, ex_list, ex_tuple, at0, at1, at2, at3, ln0, ln1, ln2, ln3, ln4, ln5, ln6, List.cons_append, List.nil_append, List.getElem?_cons_zero, List.getElem?_cons_succ, List.set_cons_zero, List.set_cons_succ, List.length_cons, List.length_nil, true_and, and_true, true_implies, forall_const, Bool.true_eq_false, Bool.false_eq_true, false_implies, decide_eq_true_eq, decide_eq_false_iff_not, Int.sub_self, Int.sub_zero, Int.reduceSub, Int.reduceAdd, Int.reduceNeg, Int.reduceEq, Int.reduceLT, Int.reduceLE, Int.reduceNe, if_true, if_false, reduceIte, decide_true, decide_false, decide_not, Bool.not_true, Bool.not_false, Bool.not_eq_true, Bool.not_eq_false, aTw0, aTw1, aSetTw1, aAugTw0, aScLen, aScIx, aScNil, h0]
  have p120 : (0 : Int) < 10 ^ Int.toNat 60 * 10 ^ Int.toNat 60 := by
    have e : (60 : Int).toNat = 60 := rfl
    rw [e]
    decide
  have pow5 : ∀ x : Int, CPow (x % 2147483647) 5 := fun x => by
    have a1 := Int.emod_nonneg x (show (2147483647 : Int) ≠ 0 by decide)
    have a2 := Int.emod_lt_of_pos x (show (0 : Int) < 2147483647 by decide)
    exact ⟨by decide, by decide, by omega⟩
  have last : ∀ p : Nat, ¬ ns = [] → (0 : Int) < (ns.length : Int) ∧ ∃ k m, PyData.int ((p : Int) % (ns.length : Int)) = PyData.int k ∧ atI ns k = some m ∧ IntMulOk m 1103515245 ∧ IntMulOk 7919 (p : Int) ∧ CPow ((m * 1103515245 + 7919 * (p : Int) + 12345) % 2147483647) 5 ∧
      Q (.int (((m * 1103515245 + 7919 * (p : Int) + 12345) % 2147483647) ^ Int.toNat 5 % 2147483647 % 999983 % many)) := fun p hn => by
    have hl : (0 : Int) < (ns.length : Int) := by
      cases ns with
      | nil => exact absurd rfl hn
      | cons x r => rw [List.length_cons]; omega
    obtain ⟨m, e, _⟩ := Lr.at_ex (xs := ns) (Int.emod_nonneg (p : Int) (by omega)) (Int.emod_lt_of_pos (p : Int) hl)
    exact ⟨hl, _, m, rfl, e, Lr.mulOk1 m, Lr.mulOk2 p, pow5 _, hmod _⟩
  intro q1
  refine ⟨fun _ q2 q3 => ⟨hdiv _, hmod _⟩, fun _ p => ⟨fun _ => hmod _, fun hn => ⟨fun hp => ?_, fun _ => last p hn⟩⟩⟩
  obtain ⟨m, e, _⟩ := Lr.at_ex (xs := ns) (k := (p : Int)) (by omega) hp
  exact ⟨_, m, rfl, e, Lr.powOk18, fun _ => ⟨_, m, rfl, e, hdiv _, Lr.powOk60, Lr.powOk60, Lr.mulOk3, p120, _, m, rfl, e, hmod _⟩, fun _ => last p hn⟩
theorem t__law_crossing {f : Addr} {fd : FuncData} (c__law_draw : Cl P w K mg base k "_law_draw" 3 Lr.W_draw) (F : Fun K "_law_crossing" "_law_crossing" s__law_crossing f fd) (gm : mg "_law_crossing" = some (.ref f)) (hb : Binds K fd ["_law_script", "_law_town"] []) : Cl P w K mg base (k + 1) "_law_crossing" 2 Lr.W_dcross := by
  have nd := sc__law_crossing.nd
  refine def_ok (N := ["_law_script", "_law_town"]) (ps := ["_law_script", "_law_town"]) [] F sc__law_crossing gm hb ⟨_, fun cdv A outer s H E hr => have hu := hr.units; have hu2 := units65 hr
    (jss_one (js_ret (je_tup (jd_cons (j_add j_int (j_call c__law_draw hr (ja_sc 0 (ja_town 1 (ja_cons j_int ja_nil))))) (jd_cons (j_call c__law_draw hr (ja_sc 0 (ja_town 1 (ja_cons j_int ja_nil)))) jd_nil))))), fun as Q hl hW => ?_⟩
  obtain ⟨ns, rfl, q⟩ := hW
  simp only [List.map_cons, List.map_nil, aSeq, aLc, iL, iT, iR1, iE, iZ, aSlT, aSlL, aNoP, aPt, wipeE, aIfS, aT, aB, aBO, aC, aSet, aRet, aTup, aLst, aO, dCons, dNil, aCB, aCBO, aOr, aAnd, aNot, aIf, aAndV, aOrV, aNotV, aSkip, aAsg, aAug, ex_vaint, tgN, aCall, gConsA, gNilA, gScA, gTownA, aPar2, aPar3, aV_eq, dI_i, dIC_i, dIx_t, dIx_l, dMin2_i, dMax2_i, dSumT_2, dLen_l, dLen_t, dEq_i, dNe_i, dEq_ni, dEq_in, dIs_i, dIs_n, dIsn_i, dIsn_n, dCat_l, dCatT_t, dListO_l, dListO_t, dTupleO_l, dTupleO_t, tgs2, tgs0, tgt, ite_t, ite_f, ex_l1i, ex_l1l, ex_l2l, ex_l1, ex_l2, ex_l3, ex_int, ex_bool, ex_some, ex_va, ex_ow, ex_sc, ex_list, ex_tuple, at0, at1, at2, at3, ln0, ln1, ln2, ln3, ln4, ln5, ln6, List.cons_append, List.nil_append, List.getElem?_cons_zero, List.getElem?_cons_succ, List.set_cons_zero, List.set_cons_succ, List.length_cons, List.length_nil, true_and, and_true, true_implies, forall_const, Bool.true_eq_false, Bool.false_eq_true, false_implies, decide_eq_true_eq, decide_eq_false_iff_not, Int.sub_self, Int.sub_zero, Int.reduceSub, Int.reduceAdd, Int.reduceNeg, Int.reduceEq, Int.reduceLT, Int.reduceLE, Int.reduceNe, if_true, if_false, reduceIte, decide_true, decide_false, decide_not, Bool.not_true, Bool.not_false, Bool.not_eq_true, Bool.not_eq_false, Lr.W_draw_3]
  intro n n0 n1 m m0 m1
  exact q _ _ ⟨⟨by omega, by omega⟩, by omega, by omega⟩
theorem t__law_pick {f : Addr} {fd : FuncData} (c__law_draw : Cl P w K mg base k "_law_draw" 3 Lr.W_draw) (z_len : mg "len" = none) (F : Fun K "_law_pick" "_law_pick" s__law_pick f fd) (gm : mg "_law_pick" = some (.ref f)) (hb : Binds K fd ["_law_script", "_law_town", "_law_some"] []) : Cl P w K mg base (k + 1) "_law_pick" 3 Lr.W_pick := by
  have nd := sc__law_pick.nd
  refine def_ok (N := ["_law_script", "_law_town", "_law_some"]) (ps := ["_law_script", "_law_town", "_law_some"]) [] F sc__law_pick gm hb ⟨_, fun cdv A outer s H E hr => have hu := hr.units; have hu2 := units65 hr
    (jss_one (js_ret (j_ix (jv 2) (j_call c__law_draw hr (ja_sc 0 (ja_town 1 (ja_cons (j_bi call_len_seq sc_len z_len PySem.boot_len (jd_cons (jv 2) jd_nil)) ja_nil))))))), fun as Q hl hW => ?_⟩
  obtain ⟨ns, xs, rfl, h0, h1, q⟩ := hW
  have hl : (0 : Int) < (xs.length : Int) := by
    cases xs with
    | nil => exact absurd rfl h0
    | cons x r => rw [List.length_cons]; omega
  have hl2 : (xs.length : Int) ≤ 1000 := by omega
  simp only [List.map_cons, List.map_nil, aSeq, aLc, iL, iT, iR1, iE, iZ, aSlT, aSlL, aNoP, aPt, wipeE, aIfS, aT, aB, aBO, aC, aSet, aRet, aTup, aLst, aO, dCons, dNil, aCB, aCBO, aOr, aAnd, aNot, aIf, aAndV, aOrV, aNotV, aSkip, aAsg, aAug, ex_vaint, tgN, aCall, gConsA, gNilA, gScA, gTownA, aPar2, aPar3, aV_eq, dI_i, dIC_i, dIx_t, dIx_l, dMin2_i, dMax2_i, dSumT_2, dLen_l, dLen_t, dEq_i, dNe_i, dEq_ni, dEq_in, dIs_i, dIs_n, dIsn_i, dIsn_n, dCat_l, dCatT_t, dListO_l, dListO_t, dTupleO_l, dTupleO_t, tgs2, tgs0, tgt, ite_t, ite_f, ex_l1i, ex_l1l, ex_l2l, ex_l1, ex_l2, ex_l3, ex_int, ex_bool, ex_some, ex_va, ex_ow, ex_sc, ex_list, ex_tuple, at0, at1, at2, at3, ln0, ln1, ln2, ln3, ln4, ln5, ln6, List.cons_append, List.nil_append, List.getElem?_cons_zero, List.getElem?_cons_succ, List.set_cons_zero, List.set_cons_succ, List.length_cons, List.length_nil, true_and, and_true, true_implies, forall_const, Bool.true_eq_false, Bool.false_eq_true, false_implies, decide_eq_true_eq, decide_eq_false_iff_not, Int.sub_self, Int.sub_zero, Int.reduceSub, Int.reduceAdd, Int.reduceNeg, Int.reduceEq, Int.reduceLT, Int.reduceLE, Int.reduceNe, if_true, if_false, reduceIte, decide_true, decide_false, decide_not, Bool.not_true, Bool.not_false, Bool.not_eq_true, Bool.not_eq_false, Lr.W_draw_i hl hl2]
  intro n n0 n1
  obtain ⟨m, e, hm⟩ := Lr.at_ex (xs := xs) n0 n1
  exact ⟨m, e, q m hm⟩
theorem t__law_rule {f : Addr} {fd : FuncData} (c__law_pick : Cl P w K mg base k "_law_pick" 3 Lr.W_pick) (c__law_draw : Cl P w K mg base k "_law_draw" 3 Lr.W_draw) (F : Fun K "_law_rule" "_law_rule" s__law_rule f fd) (gm : mg "_law_rule" = some (.ref f)) (hb : Binds K fd ["_law_script", "_law_town"] []) : Cl P w K mg base (k + 1) "_law_rule" 2 Lr.W_drule := by
  have nd := sc__law_rule.nd
  refine def_ok (N := ["_law_script", "_law_town", "_law_word", "_law_numbers"]) (ps := ["_law_script", "_law_town"]) [Sl.un, Sl.un] F sc__law_rule gm hb ⟨_, fun cdv A outer s H E hr => have hu := hr.units; have hu2 := units65 hr
    (jss_cons (js_set 2 nd (j_call c__law_pick hr (ja_sc 0 (ja_town 1 (ja_cons (JO.je (jo_lst (jd_cons j_str (jd_cons j_str (jd_cons j_str (jd_cons j_str (jd_cons j_str (jd_cons j_str jd_nil)))))))) ja_nil)))))
  (jss_cons (js_set 3 nd (je_tup (jd_cons (j_add j_int (j_call c__law_draw hr (ja_sc 0 (ja_town 1 (ja_cons j_int ja_nil))))) (jd_cons (j_add j_int (j_call c__law_draw hr (ja_sc 0 (ja_town 1 (ja_cons j_int ja_nil))))) jd_nil))))
  (jss_one (js_ret (j_catT (je_tup (jd_cons (jv 2) jd_nil)) (j_slT (jv 3) jp_none (jp_some (je_if (jt_in (jv 2) (je_tup (jd_cons j_str (jd_cons j_str jd_nil)))) j_int j_int)))))))), fun as Q hl hW => ?_⟩
  obtain ⟨ns, rfl, q⟩ := hW
  simp only [List.map_cons, List.map_nil, aSeq, aLc, iL, iT, iR1, iE, iZ, aSlT, aSlL, aNoP, aPt, wipeE, aIfS, aT, aB, aBO, aC, aSet, aRet, aTup, aLst, aO, dCons, dNil, aCB, aCBO, aOr, aAnd, aNot, aIf, aAndV, aOrV, aNotV, aSkip, aAsg, aAug, ex_vaint, tgN, aCall, gConsA, gNilA, gScA, gTownA, aPar2, aPar3, aV_eq, dI_i, dIC_i, dIx_t, dIx_l, dMin2_i, dMax2_i, dSumT_2, dLen_l, dLen_t, dEq_i, dNe_i, dEq_ni, dEq_in, dIs_i, dIs_n, dIsn_i, dIsn_n, dCat_l, dCatT_t, dListO_l, dListO_t, dTupleO_l, dTupleO_t, tgs2, tgs0, tgt, ite_t, ite_f, ex_l1i, ex_l1l, ex_l2l, ex_l1, ex_l2, ex_l3, ex_int, ex_bool, ex_some, ex_va, ex_ow, ex_sc, ex_list, ex_tuple, at0, at1, at2, at3, ln0, ln1, ln2, ln3, ln4, ln5, ln6, List.cons_append, List.nil_append, List.getElem?_cons_zero, List.getElem?_cons_succ, List.set_cons_zero, List.set_cons_succ, List.length_cons, List.length_nil, true_and, and_true, true_implies, forall_const, Bool.true_eq_false, Bool.false_eq_true, false_implies, decide_eq_true_eq, decide_eq_false_iff_not, Int.sub_self, Int.sub_zero, Int.reduceSub, Int.reduceAdd, Int.reduceNeg, Int.reduceEq, Int.reduceLT, Int.reduceLE, Int.reduceNe, if_true, if_false, reduceIte, decide_true, decide_false, decide_not, Bool.not_true, Bool.not_false, Bool.not_eq_true, Bool.not_eq_false, Lr.W_draw_4, Lr.W_pick_i (show (PyData.str (Str.ofString "asked") :: [PyData.str (Str.ofString "clock"), .str (Str.ofString "due"), .str (Str.ofString "empty"), .str (Str.ofString "gap"), .str (Str.ofString "longer")]).length ≤ 1000 by simp)]
  intro y hy n n0 n1 m m0 m1
  have hn : Lr.N4 (1 + n) := ⟨by omega, by omega⟩
  have hm : Lr.N4 (1 + m) := ⟨by omega, by omega⟩
  simp only [List.mem_cons, List.not_mem_nil, or_false] at hy
  rcases hy with rfl | rfl | rfl | rfl | rfl | rfl
  all_goals simp only [List.map_cons, List.map_nil, aSeq, aLc, iL, iT, iR1, iE, iZ, aSlT, aSlL, aNoP, aPt, wipeE, aIfS, aT, aB, aBO, aC, aSet, aRet, aTup, aLst, aO, dCons, dNil, aCB, aCBO, aOr, aAnd, aNot, aIf, aAndV, aOrV, aNotV, aSkip, aAsg, aAug, ex_vaint, tgN, aCall, gConsA, gNilA, gScA, gTownA, aPar2, aPar3, aV_eq, dI_i, dIC_i, dIx_t, dIx_l, dMin2_i, dMax2_i, dSumT_2, dLen_l, dLen_t, dEq_i, dNe_i, dEq_ni, dEq_in, dIs_i, dIs_n, dIsn_i, dIsn_n, dCat_l, dCatT_t, dListO_l, dListO_t, dTupleO_l, dTupleO_t, tgs2, tgs0, tgt, ite_t, ite_f, ex_l1i, ex_l1l, ex_l2l, ex_l1, ex_l2, ex_l3, ex_int, ex_bool, ex_some, ex_va, ex_ow, ex_sc, ex_list, ex_tuple, at0, at1, at2, at3, ln0, ln1, ln2, ln3, ln4, ln5, ln6, List.cons_append, List.nil_append, List.getElem?_cons_zero, List.getElem?_cons_succ, List.set_cons_zero, List.set_cons_succ, List.length_cons, List.length_nil, true_and, and_true, true_implies, forall_const, Bool.true_eq_false, Bool.false_eq_true, false_implies, decide_eq_true_eq, decide_eq_false_iff_not, Int.sub_self, Int.sub_zero, Int.reduceSub, Int.reduceAdd, Int.reduceNeg, Int.reduceEq, Int.reduceLT, Int.reduceLE, Int.reduceNe, if_true, if_false, reduceIte, decide_true, decide_false, decide_not, Bool.not_true, Bool.not_false, Bool.not_eq_true, Bool.not_eq_false, Lr.wi_asked, Lr.wi_clock, Lr.wi_due, Lr.wi_empty, Lr.wi_gap, Lr.wi_longer, cut2_1, cut2_2]
  · exact q (.asked (1 + n)) hn
  · exact q (.clock (1 + n) (1 + m)) ⟨hn, hm⟩
  · exact q (.due (1 + n)) hn
  · exact q (.empty (1 + n)) hn
  · exact q (.gap (1 + n) (1 + m)) ⟨hn, hm⟩
  · exact q (.longer (1 + n)) hn
theorem t__law_back {f : Addr} {fd : FuncData} {C : Addr} (hC : Lr.DkCls K C) (mx_undo : ClMX P w K mg base k C "undo" 1 (Lr.WX_undo C C_NothingToUndo)) (mx_redo : ClMX P w K mg base k C "redo" 1 (Lr.WX_redo C C_NothingToUndo)) (z_isinstance : mg "isinstance" = none) (gE_LightError : mg "LightError" = some (.ref C_LightError)) (gE_NothingToUndo : mg "NothingToUndo" = some (.ref C_NothingToUndo)) (F : Fun K "_law_back" "_law_back" s__law_back f fd) : FnOk P w K mg base CX0 (k + 1) f fd ["_law_desk", "_law_is_undo"] (spMut ⟨K, P, w⟩ 2 (Lr.W_back K C_LightError C_NothingToUndo C)) := by
  have nd := sc__law_back.nd
  refine def_fnM (N := ["_law_desk", "_law_is_undo", "error"]) (ps := ["_law_desk", "_law_is_undo"]) [Sl.un] F sc__law_back ⟨_, fun cdv A outer s H E hr => have hu := hr.units; have hu2 := units65 hr
    (jss_one (js_tryE 2 (ok := Lr.OkP K C_LightError C_NothingToUndo) nd ⟨rfl, by decide, .inl gE_LightError⟩ (fun C h => h.exm) (fun pn xe => (jsx_one (js_retXm (jxm_if (jt_val (jv 1)) (jxm_meth0 0 hC.cls mx_undo hr) (jxm_meth0 0 hC.cls mx_redo hr))))) (fun e oe C pn hz hfl hC => (jss_one (js_retE (je_if (jt_val (je_isEo K 2 (List.mem_cons_self) hC.exc hz hfl gE_NothingToUndo z_isinstance (by decide +kernel))) j_bl j_non)))))), fun φ as Q hl hW ow => ?_⟩
  obtain ⟨a, dx, l1, l2, c, b, e0, sm, okp, h1, h2⟩ := hW
  obtain ⟨e0, e1⟩ := List.cons.inj e0
  cases e0
  subst e1
  simp only [aTryE, aRetXm, List.map_cons, List.map_nil, aSeq, aLc, iL, iT, iR1, iE, iZ, aSlT, aSlL, aNoP, aPt, wipeE, aIfS, aT, aB, aBO, aC, aSet, aRet, aTup, aLst, aO, dCons, dNil, aCB, aCBO, aOr, aAnd, aNot, aIf, aAndV, aOrV, aNotV, aSkip, aAsg, aAug, ex_vaint, tgN, aCall, gConsA, gNilA, gScA, gTownA, aPar2, aPar3, aV_eq, dI_i, dIC_i, dIx_t, dIx_l, dMin2_i, dMax2_i, dSumT_2, dLen_l, dLen_t, dEq_i, dNe_i, dEq_ni, dEq_in, dIs_i, dIs_n, dIsn_i, dIsn_n, dCat_l, dCatT_t, dListO_l, dListO_t, dTupleO_l, dTupleO_t, tgs2, tgs0, tgt, ite_t, ite_f, ex_l1i, ex_l1l, ex_l2l, ex_l1, ex_l2, ex_l3, ex_int, ex_bool, ex_some, ex_va, ex_ow, ex_sc, ex_list, ex_tuple, at0, at1, at2, at3, ln0, ln1, ln2, ln3, ln4, ln5, ln6, List.cons_append, List.nil_append, List.getElem?_cons_zero, List.getElem?_cons_succ, List.set_cons_zero, List.set_cons_succ, List.length_cons, List.length_nil, true_and, and_true, true_implies, forall_const, Bool.true_eq_false, Bool.false_eq_true, false_implies, decide_eq_true_eq, decide_eq_false_iff_not, Int.sub_self, Int.sub_zero, Int.reduceSub, Int.reduceAdd, Int.reduceNeg, Int.reduceEq, Int.reduceLT, Int.reduceLE, Int.reduceNe, if_true, if_false, reduceIte, decide_true, decide_false, decide_not, Bool.not_true, Bool.not_false, Bool.not_eq_true, Bool.not_eq_false]
  refine ⟨by decide, fun z => ?_, fun z => ?_⟩
  · obtain ⟨g1, g2⟩ := h1 z
    refine ⟨_, rfl, apart_no rfl, rfl, Lr.dk_to, Lr.dk_ins ⟨by decide +kernel, by decide +kernel, by decide +kernel, by decide +kernel⟩, a, dx, l1, l2, c, rfl, sm, fun xs k e => ⟨_, rfl, Lr.dk_to, g1 xs k e⟩, fun e => ⟨okp, rfl, fun x => ?_⟩⟩
    simp only [aRetE, aIsE, List.map_cons, List.map_nil, aSeq, aLc, iL, iT, iR1, iE, iZ, aSlT, aSlL, aNoP, aPt, wipeE, aIfS, aT, aB, aBO, aC, aSet, aRet, aTup, aLst, aO, dCons, dNil, aCB, aCBO, aOr, aAnd, aNot, aIf, aAndV, aOrV, aNotV, aSkip, aAsg, aAug, ex_vaint, tgN, aCall, gConsA, gNilA, gScA, gTownA, aPar2, aPar3, aV_eq, dI_i, dIC_i, dIx_t, dIx_l, dMin2_i, dMax2_i, dSumT_2, dLen_l, dLen_t, dEq_i, dNe_i, dEq_ni, dEq_in, dIs_i, dIs_n, dIsn_i, dIsn_n, dCat_l, dCatT_t, dListO_l, dListO_t, dTupleO_l, dTupleO_t, tgs2, tgs0, tgt, ite_t, ite_f, ex_l1i, ex_l1l, ex_l2l, ex_l1, ex_l2, ex_l3, ex_int, ex_bool, ex_some, ex_va, ex_ow, ex_sc, ex_list, ex_tuple, at0, at1, at2, at3, ln0, ln1, ln2, ln3, ln4, ln5, ln6, List.cons_append, List.nil_append, List.getElem?_cons_zero, List.getElem?_cons_succ, List.set_cons_zero, List.set_cons_succ, List.length_cons, List.length_nil, true_and, and_true, true_implies, forall_const, Bool.true_eq_false, Bool.false_eq_true, false_implies, decide_eq_true_eq, decide_eq_false_iff_not, Int.sub_self, Int.sub_zero, Int.reduceSub, Int.reduceAdd, Int.reduceNeg, Int.reduceEq, Int.reduceLT, Int.reduceLE, Int.reduceNe, if_true, if_false, reduceIte, decide_true, decide_false, decide_not, Bool.not_true, Bool.not_false, Bool.not_eq_true, Bool.not_eq_false]
    exact ⟨true, okp.is, fun _ => ⟨_, rfl, Lr.dk_to, g2 e⟩, fun z => (by cases z)⟩
  · obtain ⟨g1, g2⟩ := h2 z
    refine ⟨_, rfl, apart_no rfl, rfl, Lr.dk_to, Lr.dk_ins ⟨by decide +kernel, by decide +kernel, by decide +kernel, by decide +kernel⟩, a, dx, l1, l2, c, rfl, sm, fun xs k e => ⟨_, rfl, Lr.dk_to, g1 xs k e⟩, fun e => ⟨okp, rfl, fun x => ?_⟩⟩
    simp only [aRetE, aIsE, List.map_cons, List.map_nil, aSeq, aLc, iL, iT, iR1, iE, iZ, aSlT, aSlL, aNoP, aPt, wipeE, aIfS, aT, aB, aBO, aC, aSet, aRet, aTup, aLst, aO, dCons, dNil, aCB, aCBO, aOr, aAnd, aNot, aIf, aAndV, aOrV, aNotV, aSkip, aAsg, aAug, ex_vaint, tgN, aCall, gConsA, gNilA, gScA, gTownA, aPar2, aPar3, aV_eq, dI_i, dIC_i, dIx_t, dIx_l, dMin2_i, dMax2_i, dSumT_2, dLen_l, dLen_t, dEq_i, dNe_i, dEq_ni, dEq_in, dIs_i, dIs_n, dIsn_i, dIsn_n, dCat_l, dCatT_t, dListO_l, dListO_t, dTupleO_l, dTupleO_t, tgs2, tgs0, tgt, ite_t, ite_f, ex_l1i, ex_l1l, ex_l2l, ex_l1, ex_l2, ex_l3, ex_int, ex_bool, ex_some, ex_va, ex_ow, ex_sc, ex_list, ex_tuple, at0, at1, at2, at3, ln0, ln1, ln2, ln3, ln4, ln5, ln6, List.cons_append, List.nil_append, List.getElem?_cons_zero, List.getElem?_cons_succ, List.set_cons_zero, List.set_cons_succ, List.length_cons, List.length_nil, true_and, and_true, true_implies, forall_const, Bool.true_eq_false, Bool.false_eq_true, false_implies, decide_eq_true_eq, decide_eq_false_iff_not, Int.sub_self, Int.sub_zero, Int.reduceSub, Int.reduceAdd, Int.reduceNeg, Int.reduceEq, Int.reduceLT, Int.reduceLE, Int.reduceNe, if_true, if_false, reduceIte, decide_true, decide_false, decide_not, Bool.not_true, Bool.not_false, Bool.not_eq_true, Bool.not_eq_false]
    exact ⟨true, okp.is, fun _ => ⟨_, rfl, Lr.dk_to, g2 e⟩, fun z => (by cases z)⟩
theorem t__law_copied {f : Addr} {fd : FuncData} {j : Nat} (hj : j + 1 ≤ k) {C : Addr} (hC : Lr.DkCls K C) (c_eq : ClEq P w K mg base j C (Lr.W_eq C)) (m_comings : ClR P w K mg base k C "comings" 1 Lr.WD_comings) (m_copy : ClSN P w K mg base k C "copy" (Lr.W_copy C)) (c__law_back : ClMd P w K mg base k "_law_back" 2 (Lr.W_back K C_LightError C_NothingToUndo C)) (F : Fun K "_law_copied" "_law_copied" s__law_copied f fd) (gm : mg "_law_copied" = some (.ref f)) (hb : Binds K fd ["_law_desk", "_law_done"] []) : ClDN P w K mg base (k + 1) "_law_copied" 2 (Lr.W_copied K C_LightError C_NothingToUndo C) := by
  have nd := sc__law_copied.nd
  refine def_okDN (N := ["_law_desk", "_law_done", "_law_other"]) (ps := ["_law_desk", "_law_done"]) [Sl.un] F sc__law_copied gm hb ⟨_, fun cdv A outer s H E hr => have hu := hr.units; have hu2 := units65 hr
    (jls_cons (js_setN 2 nd (jn_copy 0 hC.cls m_copy hr))
  (jls_cons (js_if (JW.t (jw_or (jt_borA 2 (jt_borA 0 (jt_eqZ true 2 0 c_eq (hr.mono hj)))) (jw_or (jt_ne hu (j_methR 2 hC.cls m_comings hr) (jv 1)) (jw_or (jt_borA 0 (jt_eqD false 0 c_eq (hr.mono hj) j_int)) (jw_or1 (jt_borA 0 (jt_eqD false 0 c_eq (hr.mono hj) (jv 1)))))))) (jss_one (js_ret j_non)) jss_nil)
  (jls_cons (js_if (jt_ne hu (jv 1) (JO.je (jo_lst jd_nil))) (jss_cons (js_exprM (jm_call 0 c__law_back hr (ja_cons j_bl ja_nil)))
    (jss_one (js_if (JW.t (jw_or (jt_ne hu (j_methR 2 hC.cls m_comings hr) (jv 1)) (jw_or1 (jt_borA 0 (jt_borA 2 (jt_eqZ false 0 2 c_eq (hr.mono hj))))))) (jss_one (js_ret j_non)) jss_nil))) jss_nil)
  (jls_ret 2)))), fun φ as Q hl hW ow => ?_⟩
  obtain ⟨a, dx, l1, l2, c, e0, hnd, ok, sm, okp, q⟩ := hW
  obtain ⟨e0, e1⟩ := List.cons.inj e0
  cases e0
  subst e1
  simp only [aSeqL, aSetN, aCopy, List.map_cons, List.map_nil, aSeq, aLc, iL, iT, iR1, iE, iZ, aSlT, aSlL, aNoP, aPt, wipeE, aIfS, aT, aB, aBO, aC, aSet, aRet, aTup, aLst, aO, dCons, dNil, aCB, aCBO, aOr, aAnd, aNot, aIf, aAndV, aOrV, aNotV, aSkip, aAsg, aAug, ex_vaint, tgN, aCall, gConsA, gNilA, gScA, gTownA, aPar2, aPar3, aV_eq, dI_i, dIC_i, dIx_t, dIx_l, dMin2_i, dMax2_i, dSumT_2, dLen_l, dLen_t, dEq_i, dNe_i, dEq_ni, dEq_in, dIs_i, dIs_n, dIsn_i, dIsn_n, dCat_l, dCatT_t, dListO_l, dListO_t, dTupleO_l, dTupleO_t, tgs2, tgs0, tgt, ite_t, ite_f, ex_l1i, ex_l1l, ex_l2l, ex_l1, ex_l2, ex_l3, ex_int, ex_bool, ex_some, ex_va, ex_ow, ex_sc, ex_list, ex_tuple, at0, at1, at2, at3, ln0, ln1, ln2, ln3, ln4, ln5, ln6, List.cons_append, List.nil_append, List.getElem?_cons_zero, List.getElem?_cons_succ, List.set_cons_zero, List.set_cons_succ, List.length_cons, List.length_nil, true_and, and_true, true_implies, forall_const, Bool.true_eq_false, Bool.false_eq_true, false_implies, decide_eq_true_eq, decide_eq_false_iff_not, Int.sub_self, Int.sub_zero, Int.reduceSub, Int.reduceAdd, Int.reduceNeg, Int.reduceEq, Int.reduceLT, Int.reduceLE, Int.reduceNe, if_true, if_false, reduceIte, decide_true, decide_false, decide_not, Bool.not_true, Bool.not_false, Bool.not_eq_true, Bool.not_eq_false]
  refine ⟨by decide, _, _, _, rfl, Lr.dk_rd ⟨by decide +kernel, by decide +kernel, by decide +kernel, by decide +kernel⟩ hnd, a, dx, l1, l2, c, rfl, ok, fun a' dx' l1' l2' nd' => ⟨Lr.dk_off, fun ap => ?_⟩⟩
  have dj : ∀ x ∈ [a, dx, l1, l2], x ∉ [a', dx', l1', l2'] := ap 0 _ rfl
  have ap0 (φ ψ : LnT) (d : DD) (h : ∀ x ∈ ψ.A, x ∈ [a', dx', l1', l2']) : Apart [.ln φ, .va d, .ln ψ] 0 [a, dx, l1, l2] := fun j χ hj e x hx hz => by
    match j, hj, e with
    | 0, hj, _ => exact hj rfl
    | 1, _, e => cases e
    | 2, _, e =>
      cases Option.some.inj e
      exact dj x hz (h x hx)
    | j + 3, _, e => simp at e
  have ap2 (φ ψ : LnT) (d : DD) (h : ∀ x ∈ φ.A, x ∈ [a, dx, l1, l2]) : Apart [.ln φ, .va d, .ln ψ] 2 [a', dx', l1', l2'] := fun j χ hj e x hx hz => by
    match j, hj, e with
    | 2, hj, _ => exact hj rfl
    | 1, _, e => cases e
    | 0, _, e =>
      cases Option.some.inj e
      exact dj x (h x hx) hz
    | j + 3, _, e => simp at e
  have zn {l : List Addr} : ∀ x ∈ ([] : List Addr), x ∈ l := fun x h => by cases h
  have ff {R : Prop} (r : R) : (((true : Bool) != true) = true → False) ∧ (((true : Bool) != true) = false → R) := ⟨fun z => (by cases z), fun _ => r⟩
  have gg {R : Prop} (r : R) : (((false : Bool) != false) = true → False) ∧ (((false : Bool) != false) = false → R) := ⟨fun z => (by cases z), fun _ => r⟩
  refine ⟨_, _, rfl, ap2 _ _ _ (fun _ h => h), Lr.dk_lend, _, _, rfl, ap0 _ (Lr.dkZ C a' dx' l1' l2' c) _ zn, Lr.dk_lend, _, _, rfl, rfl, rfl, rfl, Lr.dkZ_at, Lr.dkZ_at, .inl ⟨a', dx', l1', l2', c, a, dx, l1, l2, c, rfl, true, congrArg PyData.bool (Lr.same_self c), ff ?_⟩⟩
  refine Lr.m_comings rfl nd' ok (Lr.dNe_same (Lr.sh_co _) rfl ⟨false, rfl, fun z => (by cases z), fun _ => ?_⟩)
  refine ⟨_, _, rfl, ap0 _ _ _ (fun _ h => h), Lr.dk_lend, _, rfl, rfl, Lr.dkZ_at, .inl ⟨5, rfl⟩, .inr ⟨a, dx, l1, l2, c, .int 5, rfl, .inl ⟨5, rfl⟩, false, rfl, gg ?_⟩⟩
  refine ⟨_, _, rfl, ap0 _ _ _ (fun _ h => h), Lr.dk_lend, _, rfl, rfl, Lr.dkZ_at, _, rfl, .inr ⟨_, rfl⟩, .inr ⟨a, dx, l1, l2, c, _, rfl, .inr ⟨_, rfl⟩, false, rfl, gg ?_⟩⟩
  refine Lr.dNe_co (ds := []) ⟨_, rfl, fun z => ?_, fun z => ?_⟩
  · have ne : c.cs ≠ [] := by simpa using z
    refine ⟨_, rfl, ap0 _ _ _ (fun _ h => h), rfl, rfl, a, dx, l1, l2, c, true, rfl, sm, okp, fun _ => ⟨fun xs k e => ?_, fun e => absurd e ne⟩, fun z => (by cases z)⟩
    simp only [List.map_cons, List.map_nil, aSeq, aLc, iL, iT, iR1, iE, iZ, aSlT, aSlL, aNoP, aPt, wipeE, aIfS, aT, aB, aBO, aC, aSet, aRet, aTup, aLst, aO, dCons, dNil, aCB, aCBO, aOr, aAnd, aNot, aIf, aAndV, aOrV, aNotV, aSkip, aAsg, aAug, ex_vaint, tgN, aCall, gConsA, gNilA, gScA, gTownA, aPar2, aPar3, aV_eq, dI_i, dIC_i, dIx_t, dIx_l, dMin2_i, dMax2_i, dSumT_2, dLen_l, dLen_t, dEq_i, dNe_i, dEq_ni, dEq_in, dIs_i, dIs_n, dIsn_i, dIsn_n, dCat_l, dCatT_t, dListO_l, dListO_t, dTupleO_l, dTupleO_t, tgs2, tgs0, tgt, ite_t, ite_f, ex_l1i, ex_l1l, ex_l2l, ex_l1, ex_l2, ex_l3, ex_int, ex_bool, ex_some, ex_va, ex_ow, ex_sc, ex_list, ex_tuple, at0, at1, at2, at3, ln0, ln1, ln2, ln3, ln4, ln5, ln6, List.cons_append, List.nil_append, List.getElem?_cons_zero, List.getElem?_cons_succ, List.set_cons_zero, List.set_cons_succ, List.length_cons, List.length_nil, true_and, and_true, true_implies, forall_const, Bool.true_eq_false, Bool.false_eq_true, false_implies, decide_eq_true_eq, decide_eq_false_iff_not, Int.sub_self, Int.sub_zero, Int.reduceSub, Int.reduceAdd, Int.reduceNeg, Int.reduceEq, Int.reduceLT, Int.reduceLE, Int.reduceNe, if_true, if_false, reduceIte, decide_true, decide_false, decide_not, Bool.not_true, Bool.not_false, Bool.not_eq_true, Bool.not_eq_false]
    refine Lr.m_comings rfl nd' ok (Lr.dNe_same (Lr.sh_co _) rfl ⟨false, rfl, fun z => (by cases z), fun _ => ?_⟩)
    have sf : (c.undo xs k).same c = false := by
      have : ¬ xs = c.cs := fun w => by
        rw [e] at w
        have := congrArg List.length w
        simp at this
      simp [Lr.Dk.same, Lr.Dk.undo, this]
    refine ⟨_, _, rfl, ap0 _ _ _ (fun _ h => h), Lr.dk_lend, _, _, rfl, ap2 (Lr.dkZ C a dx l1 l2 (c.undo xs k)) _ _ zn, Lr.dk_lend, _, _, rfl, rfl, rfl, rfl, Lr.dkZ_at, Lr.dkZ_at, .inl ⟨a, dx, l1, l2, _, a', dx', l1', l2', _, rfl, false, congrArg PyData.bool sf, gg ?_⟩⟩
    exact ⟨_, rfl, rfl, ⟨_, rfl, Lr.dk_to⟩, q a' dx' l1' l2' nd'⟩
  · exact ⟨_, rfl, rfl, ⟨_, rfl, Lr.dk_to⟩, q a' dx' l1' l2' nd'⟩
theorem t_law {f : Addr} {fd : FuncData} {j : Nat} (hj : j + 1 ≤ k) {C : Addr} (hC : Lr.DkCls K C) (c__law_crossing : Cl P w K mg base k "_law_crossing" 2 Lr.W_dcross) (c__law_rule : Cl P w K mg base k "_law_rule" 2 Lr.W_drule) (c__law_draw : Cl P w K mg base k "_law_draw" 3 Lr.W_draw) (c_lights_along : Cl P w K mg base k "lights_along" 3 Lr.W_lights) (z_range : mg "range" = none) (c_Desk : ClN P w K mg base j "Desk" C 3 Lr.WM_init) (m_tick : ClM P w K mg base k C "tick" 2 (Lr.WM_tick C)) (m_comings : ClR P w K mg base k C "comings" 1 Lr.WD_comings) (m_lights : ClR P w K mg base k C "lights" 1 Lr.WD_lights) (c__law_back : ClMd P w K mg base k "_law_back" 2 (Lr.W_back K C_LightError C_NothingToUndo C)) (c__law_copied : ClDN P w K mg base k "_law_copied" 2 (Lr.W_copied K C_LightError C_NothingToUndo C)) (c_eq : ClEq P w K mg base j C (Lr.W_eq C)) (i_N : Lr.OkP K C_LightError C_NothingToUndo C_NothingToUndo) (F : Fun K "law" "law" s_law f fd) : FnOk P w K mg base CX0 (k + 1) f fd ["_law_script"] (spA ⟨K, P, w⟩ 1 WLaw) := by
  have nd := sc_law.nd
  refine def_fn (N := ["_law_script", "_law_town", "_law_crossing_here", "_law_rule_here", "_law_desk", "_law_done", "_law_undone", "_law_turn", "_law_act", "_law_coming", "_law_told", "_law_other"]) (ps := ["_law_script"]) [Sl.un, Sl.un, Sl.un, Sl.un, Sl.un, Sl.un, Sl.un, Sl.un, Sl.un, Sl.un, Sl.un] F sc_law ⟨_, fun cdv A outer s H E hr => have hu := hr.units; have hu2 := units65 hr
    (jss_cons (js_setO 1 nd (jo_lst (jd_cons j_int (jd_cons j_int jd_nil))))
  (jss_twn 1 (jss_cons (js_par2 2 3 rfl nd (jd_cons (j_call c__law_crossing hr (ja_sc 0 (ja_town 1 ja_nil))) (jd_cons (j_call c__law_rule hr (ja_sc 0 (ja_town 1 ja_nil))) jd_nil)))
  (jss_cons (js_par3N 4 5 6 rfl nd (Lr.jn_make hC c_Desk (hr.mono hj) (ja_cons (jv 2) (ja_cons (jv 3) ja_nil))) (jo_lst jd_nil) (jo_lst jd_nil))
  (jss_cons (js_for PassesOwn.never rfl (ji_range1 z_range (jd_cons (j_call c__law_draw hr (ja_sc 0 (ja_town 1 (ja_cons j_int ja_nil)))) jd_nil)) (jg_name 7 nd)
  (jss_cons (js_set 8 nd (j_call c__law_draw hr (ja_sc 0 (ja_town 1 (ja_cons j_int ja_nil)))))
  (jss_cons (js_if (jt_lt (jv 8) j_int) (jss_cons (js_set 9 nd (j_call c__law_draw hr (ja_sc 0 (ja_town 1 (ja_cons j_int ja_nil)))))
  (jss_cons (js_exprM (j_methM 4 hC.cls m_tick hr (ja_cons (jv 9) ja_nil)))
  (jss_one (js_par2OO 5 6 rfl nd (jo_borO 5 (j_cat (jv 5) (JO.je (jo_lst (jd_cons (jv 9) jd_nil))))) (jo_lst jd_nil))))) (jss_one (js_if (jt_eq hu (jv 8) j_int) (jss_cons (js_setM 10 nd (jm_call 4 c__law_back hr (ja_cons j_bl ja_nil)))
  (jss_cons (js_if (jt_bor 5 (JW.t (jw_or (jt_ne hu (jv 10) (je_if (jt_ne hu (jv 5) (JO.je (jo_lst jd_nil))) (j_ix (jv 5) (j_neg j_int)) j_bl)) (jw_or1 (jt_ne hu (j_isIB (jv 10) j_bl) (j_eq hu (jv 5) (JO.je (jo_lst jd_nil)))))))) (jss_one (js_ret j_bl)) jss_nil)
  (jss_one (js_if (jt_bor 5 (jt_ne hu (jv 5) (JO.je (jo_lst jd_nil)))) (jss_one (js_appPop 6 5 (by decide))) jss_nil)))) (jss_one (js_if (jt_eq hu (jv 8) j_int) (jss_cons (js_setM 10 nd (jm_call 4 c__law_back hr (ja_cons j_bl ja_nil)))
  (jss_cons (js_if (jt_bor 6 (JW.t (jw_or (jt_ne hu (jv 10) (je_if (jt_ne hu (jv 6) (JO.je (jo_lst jd_nil))) (j_ix (jv 6) (j_neg j_int)) j_bl)) (jw_or1 (jt_ne hu (j_isIB (jv 10) j_bl) (j_eq hu (jv 6) (JO.je (jo_lst jd_nil)))))))) (jss_one (js_ret j_bl)) jss_nil)
  (jss_one (js_if (jt_bor 6 (jt_ne hu (jv 6) (JO.je (jo_lst jd_nil)))) (jss_one (js_catPop 5 6 nd (by decide))) jss_nil)))) (jss_cons (js_setDNo 4 5 nd c__law_copied hr)
  (jss_one (js_if (jt_noneL 4 (C := C)) (jss_one (js_ret j_bl)) jss_nil))))))))
  (jss_one (js_if (jt_bor 5 (JW.t (jw_or (jt_ne hu (j_methR 4 hC.cls m_comings hr) (jv 5)) (jw_or1 (jt_ne hu (j_methR 4 hC.cls m_lights hr) (j_call c_lights_along hr (ja_cons (jv 2) (ja_cons (jv 3) (ja_cons (jv 5) ja_nil))))))))) (jss_one (js_ret j_bl)) jss_nil)))))
  (jss_cons (js_set 11 nd (je_if (jt_ne hu (jv 3) (je_tup (jd_cons j_str (jd_cons j_int jd_nil)))) (je_tup (jd_cons j_str (jd_cons j_int jd_nil))) (je_tup (jd_cons j_str (jd_cons j_int jd_nil)))))
  (jss_one (js_ret (je_and (je_eqN true c_eq (hr.mono hj) (Lr.jn_make hC c_Desk (hr.mono hj) (ja_cons (jv 2) (ja_cons (jv 3) ja_nil))) (Lr.jn_make hC c_Desk (hr.mono hj) (ja_cons (jv 2) (ja_cons (jv 11) ja_nil)))) (je_one (je_eqN true c_eq (hr.mono hj) (Lr.jn_make hC c_Desk (hr.mono hj) (ja_cons (je_tup (jd_cons j_int (jd_cons j_int jd_nil))) (ja_cons (jv 3) ja_nil))) (Lr.jn_make hC c_Desk (hr.mono hj) (ja_cons (je_tup (jd_cons j_int (jd_cons j_int jd_nil))) (ja_cons (jv 3) ja_nil)))))))))))))), fun as Q hl hW => ?_⟩
  obtain ⟨ns, rfl, hn, q⟩ := hW
  simp only [aPar3M, Lr.aMkN, List.map_cons, List.map_nil, aSeq, aLc, iL, iT, iR1, iE, iZ, aSlT, aSlL, aNoP, aPt, wipeE, aIfS, aT, aB, aBO, aC, aSet, aRet, aTup, aLst, aO, dCons, dNil, aCB, aCBO, aOr, aAnd, aNot, aIf, aAndV, aOrV, aNotV, aSkip, aAsg, aAug, ex_vaint, tgN, aCall, gConsA, gNilA, gScA, gTownA, aPar2, aPar3, aV_eq, dI_i, dIC_i, dIx_t, dIx_l, dMin2_i, dMax2_i, dSumT_2, dLen_l, dLen_t, dEq_i, dNe_i, dEq_ni, dEq_in, dIs_i, dIs_n, dIsn_i, dIsn_n, dCat_l, dCatT_t, dListO_l, dListO_t, dTupleO_l, dTupleO_t, tgs2, tgs0, tgt, ite_t, ite_f, ex_l1i, ex_l1l, ex_l2l, ex_l1, ex_l2, ex_l3, ex_int, ex_bool, ex_some, ex_va, ex_ow, ex_sc, ex_list, ex_tuple, at0, at1, at2, at3, ln0, ln1, ln2, ln3, ln4, ln5, ln6, List.cons_append, List.nil_append, List.getElem?_cons_zero, List.getElem?_cons_succ, List.set_cons_zero, List.set_cons_succ, List.length_cons, List.length_nil, true_and, and_true, true_implies, forall_const, Bool.true_eq_false, Bool.false_eq_true, false_implies, decide_eq_true_eq, decide_eq_false_iff_not, Int.sub_self, Int.sub_zero, Int.reduceSub, Int.reduceAdd, Int.reduceNeg, Int.reduceEq, Int.reduceLT, Int.reduceLE, Int.reduceNe, if_true, if_false, reduceIte, decide_true, decide_false, decide_not, Bool.not_true, Bool.not_false, Bool.not_eq_true, Bool.not_eq_false, aSetO, aTwn, ex_ow, Lr.ex_tw0, Lr.dIx_cr0, Lr.dIx_cr1, Lr.W_dcross_i, Lr.W_drule_i, Lr.W_dcom_40, Lr.W_draw_2, Lr.W_draw_3, Lr.W_draw_4, Lr.W_draw_8, Lr.W_draw_9]
  intro room pause hc rule hr
  refine ⟨by decide, room, pause, rule, rfl, hc, hr, fun a dx l1 l2 hnd => ?_⟩
  simp only [aFor, iR1, List.map_cons, List.map_nil, aSeq, aLc, iL, iT, iR1, iE, iZ, aSlT, aSlL, aNoP, aPt, wipeE, aIfS, aT, aB, aBO, aC, aSet, aRet, aTup, aLst, aO, dCons, dNil, aCB, aCBO, aOr, aAnd, aNot, aIf, aAndV, aOrV, aNotV, aSkip, aAsg, aAug, ex_vaint, tgN, aCall, gConsA, gNilA, gScA, gTownA, aPar2, aPar3, aV_eq, dI_i, dIC_i, dIx_t, dIx_l, dMin2_i, dMax2_i, dSumT_2, dLen_l, dLen_t, dEq_i, dNe_i, dEq_ni, dEq_in, dIs_i, dIs_n, dIsn_i, dIsn_n, dCat_l, dCatT_t, dListO_l, dListO_t, dTupleO_l, dTupleO_t, tgs2, tgs0, tgt, ite_t, ite_f, ex_l1i, ex_l1l, ex_l2l, ex_l1, ex_l2, ex_l3, ex_int, ex_bool, ex_some, ex_va, ex_ow, ex_sc, ex_list, ex_tuple, at0, at1, at2, at3, ln0, ln1, ln2, ln3, ln4, ln5, ln6, List.cons_append, List.nil_append, List.getElem?_cons_zero, List.getElem?_cons_succ, List.set_cons_zero, List.set_cons_succ, List.length_cons, List.length_nil, true_and, and_true, true_implies, forall_const, Bool.true_eq_false, Bool.false_eq_true, false_implies, decide_eq_true_eq, decide_eq_false_iff_not, Int.sub_self, Int.sub_zero, Int.reduceSub, Int.reduceAdd, Int.reduceNeg, Int.reduceEq, Int.reduceLT, Int.reduceLE, Int.reduceNe, if_true, if_false, reduceIte, decide_true, decide_false, decide_not, Bool.not_true, Bool.not_false, Bool.not_eq_true, Bool.not_eq_false]
  rw [Lr.W_draw_i (by decide) (by decide)]
  intro n n0 n1
  simp only [List.map_cons, List.map_nil, aSeq, aLc, iL, iT, iR1, iE, iZ, aSlT, aSlL, aNoP, aPt, wipeE, aIfS, aT, aB, aBO, aC, aSet, aRet, aTup, aLst, aO, dCons, dNil, aCB, aCBO, aOr, aAnd, aNot, aIf, aAndV, aOrV, aNotV, aSkip, aAsg, aAug, ex_vaint, tgN, aCall, gConsA, gNilA, gScA, gTownA, aPar2, aPar3, aV_eq, dI_i, dIC_i, dIx_t, dIx_l, dMin2_i, dMax2_i, dSumT_2, dLen_l, dLen_t, dEq_i, dNe_i, dEq_ni, dEq_in, dIs_i, dIs_n, dIsn_i, dIsn_n, dCat_l, dCatT_t, dListO_l, dListO_t, dTupleO_l, dTupleO_t, tgs2, tgs0, tgt, ite_t, ite_f, ex_l1i, ex_l1l, ex_l2l, ex_l1, ex_l2, ex_l3, ex_int, ex_bool, ex_some, ex_va, ex_ow, ex_sc, ex_list, ex_tuple, at0, at1, at2, at3, ln0, ln1, ln2, ln3, ln4, ln5, ln6, List.cons_append, List.nil_append, List.getElem?_cons_zero, List.getElem?_cons_succ, List.set_cons_zero, List.set_cons_succ, List.length_cons, List.length_nil, true_and, and_true, true_implies, forall_const, Bool.true_eq_false, Bool.false_eq_true, false_implies, decide_eq_true_eq, decide_eq_false_iff_not, Int.sub_self, Int.sub_zero, Int.reduceSub, Int.reduceAdd, Int.reduceNeg, Int.reduceEq, Int.reduceLT, Int.reduceLE, Int.reduceNe, if_true, if_false, reduceIte, decide_true, decide_false, decide_not, Bool.not_true, Bool.not_false, Bool.not_eq_true, Bool.not_eq_false]
  refine ⟨by omega, by omega, ?_⟩
  refine loop_inv (fun ds env => ∃ (b : List Nat) (a dx l1 l2 : Addr) (cs un : List Int) (x7 x8 x9 x10 : Sl), cs.length + un.length + b.length ≤ 30 ∧ ds = b.map (fun (w : Nat) => PyData.int (w : Int)) ∧ [a, dx, l1, l2].Nodup ∧ Lr.DkOk ⟨room, pause, rule, cs, un⟩ ∧ Lr.Dk.sm ⟨room, pause, rule, cs, un⟩ ∧ NV x7 ∧ NV x8 ∧ NV x9 ∧ NV x10 ∧
    env = [.sc ns, .tw, .va (Lr.crD room pause), .va rule.d, .ln (Lr.dkT C a dx l1 l2 ⟨room, pause, rule, cs, un⟩), .ow (cs.map PyData.int), .ow (un.map PyData.int), x7, x8, x9, x10, .un]) (fun d ds env N h hN => ?_) (fun env h => ?_) _ _
    ⟨List.range n.toNat, a, dx, l1, l2, [], [], .un, .un, .un, .un, (by rw [List.length_range]; simp; omega), rfl, hnd, ⟨hc, hr, Nat.zero_le _, fun _ h => by cases h⟩, ⟨Nat.zero_le _, fun _ h => by cases h⟩, .inl rfl, .inl rfl, .inl rfl, .inl rfl, rfl⟩
  · obtain ⟨b, a, dx, l1, l2, cs, un, x7, x8, x9, x10, hlen, e1, hnd, ok, sm, v7, v8, v9, v10, rfl⟩ := h
    cases b with
    | nil => cases e1
    | cons w b =>
      rw [List.map_cons, List.cons.injEq] at e1
      obtain ⟨rfl, rfl⟩ := e1
      rw [List.length_cons] at hlen
      simp only [List.map_cons, List.map_nil, aSeq, aLc, iL, iT, iR1, iE, iZ, aSlT, aSlL, aNoP, aPt, wipeE, aIfS, aT, aB, aBO, aC, aSet, aRet, aTup, aLst, aO, dCons, dNil, aCB, aCBO, aOr, aAnd, aNot, aIf, aAndV, aOrV, aNotV, aSkip, aAsg, aAug, ex_vaint, tgN, aCall, gConsA, gNilA, gScA, gTownA, aPar2, aPar3, aV_eq, dI_i, dIC_i, dIx_t, dIx_l, dMin2_i, dMax2_i, dSumT_2, dLen_l, dLen_t, dEq_i, dNe_i, dEq_ni, dEq_in, dIs_i, dIs_n, dIsn_i, dIsn_n, dCat_l, dCatT_t, dListO_l, dListO_t, dTupleO_l, dTupleO_t, tgs2, tgs0, tgt, ite_t, ite_f, ex_l1i, ex_l1l, ex_l2l, ex_l1, ex_l2, ex_l3, ex_int, ex_bool, ex_some, ex_va, ex_ow, ex_sc, ex_list, ex_tuple, at0, at1, at2, at3, ln0, ln1, ln2, ln3, ln4, ln5, ln6, List.cons_append, List.nil_append, List.getElem?_cons_zero, List.getElem?_cons_succ, List.set_cons_zero, List.set_cons_succ, List.length_cons, List.length_nil, true_and, and_true, true_implies, forall_const, Bool.true_eq_false, Bool.false_eq_true, false_implies, decide_eq_true_eq, decide_eq_false_iff_not, Int.sub_self, Int.sub_zero, Int.reduceSub, Int.reduceAdd, Int.reduceNeg, Int.reduceEq, Int.reduceLT, Int.reduceLE, Int.reduceNe, if_true, if_false, reduceIte, decide_true, decide_false, decide_not, Bool.not_true, Bool.not_false, Bool.not_eq_true, Bool.not_eq_false]
      rw [Lr.W_draw_i (by decide) (by decide)]
      intro t t0 t1
      simp only [List.map_cons, List.map_nil, aSeq, aLc, iL, iT, iR1, iE, iZ, aSlT, aSlL, aNoP, aPt, wipeE, aIfS, aT, aB, aBO, aC, aSet, aRet, aTup, aLst, aO, dCons, dNil, aCB, aCBO, aOr, aAnd, aNot, aIf, aAndV, aOrV, aNotV, aSkip, aAsg, aAug, ex_vaint, tgN, aCall, gConsA, gNilA, gScA, gTownA, aPar2, aPar3, aV_eq, dI_i, dIC_i, dIx_t, dIx_l, dMin2_i, dMax2_i, dSumT_2, dLen_l, dLen_t, dEq_i, dNe_i, dEq_ni, dEq_in, dIs_i, dIs_n, dIsn_i, dIsn_n, dCat_l, dCatT_t, dListO_l, dListO_t, dTupleO_l, dTupleO_t, tgs2, tgs0, tgt, ite_t, ite_f, ex_l1i, ex_l1l, ex_l2l, ex_l1, ex_l2, ex_l3, ex_int, ex_bool, ex_some, ex_va, ex_ow, ex_sc, ex_list, ex_tuple, at0, at1, at2, at3, ln0, ln1, ln2, ln3, ln4, ln5, ln6, List.cons_append, List.nil_append, List.getElem?_cons_zero, List.getElem?_cons_succ, List.set_cons_zero, List.set_cons_succ, List.length_cons, List.length_nil, true_and, and_true, true_implies, forall_const, Bool.true_eq_false, Bool.false_eq_true, false_implies, decide_eq_true_eq, decide_eq_false_iff_not, Int.sub_self, Int.sub_zero, Int.reduceSub, Int.reduceAdd, Int.reduceNeg, Int.reduceEq, Int.reduceLT, Int.reduceLE, Int.reduceNe, if_true, if_false, reduceIte, decide_true, decide_false, decide_not, Bool.not_true, Bool.not_false, Bool.not_eq_true, Bool.not_eq_false]
      refine ⟨fun h5 => ?_, fun h5 => ⟨fun h6 => ?_, fun h6 => ⟨fun h7 => ?_, fun h7 => ?_⟩⟩⟩
      · rw [Lr.W_draw_i (by decide) (by decide)]
        intro e e0 e1
        have he : Lr.ComOk e := ⟨e0, by omega⟩
        simp only [aDropM, List.map_cons, List.map_nil, aSeq, aLc, iL, iT, iR1, iE, iZ, aSlT, aSlL, aNoP, aPt, wipeE, aIfS, aT, aB, aBO, aC, aSet, aRet, aTup, aLst, aO, dCons, dNil, aCB, aCBO, aOr, aAnd, aNot, aIf, aAndV, aOrV, aNotV, aSkip, aAsg, aAug, ex_vaint, tgN, aCall, gConsA, gNilA, gScA, gTownA, aPar2, aPar3, aV_eq, dI_i, dIC_i, dIx_t, dIx_l, dMin2_i, dMax2_i, dSumT_2, dLen_l, dLen_t, dEq_i, dNe_i, dEq_ni, dEq_in, dIs_i, dIs_n, dIsn_i, dIsn_n, dCat_l, dCatT_t, dListO_l, dListO_t, dTupleO_l, dTupleO_t, tgs2, tgs0, tgt, ite_t, ite_f, ex_l1i, ex_l1l, ex_l2l, ex_l1, ex_l2, ex_l3, ex_int, ex_bool, ex_some, ex_va, ex_ow, ex_sc, ex_list, ex_tuple, at0, at1, at2, at3, ln0, ln1, ln2, ln3, ln4, ln5, ln6, List.cons_append, List.nil_append, List.getElem?_cons_zero, List.getElem?_cons_succ, List.set_cons_zero, List.set_cons_succ, List.length_cons, List.length_nil, true_and, and_true, true_implies, forall_const, Bool.true_eq_false, Bool.false_eq_true, false_implies, decide_eq_true_eq, decide_eq_false_iff_not, Int.sub_self, Int.sub_zero, Int.reduceSub, Int.reduceAdd, Int.reduceNeg, Int.reduceEq, Int.reduceLT, Int.reduceLE, Int.reduceNe, if_true, if_false, reduceIte, decide_true, decide_false, decide_not, Bool.not_true, Bool.not_false, Bool.not_eq_true, Bool.not_eq_false]
        refine Lr.m_tick rfl (no4 nv_va nv_va nv_va v10) hnd ok rfl he (show cs.length < 40 by omega) ?_
        have ok1 := Lr.play_ok ok he (show cs.length < 40 by omega)
        simp only [aPar2OO, aBorO, List.map_cons, List.map_nil, aSeq, aLc, iL, iT, iR1, iE, iZ, aSlT, aSlL, aNoP, aPt, wipeE, aIfS, aT, aB, aBO, aC, aSet, aRet, aTup, aLst, aO, dCons, dNil, aCB, aCBO, aOr, aAnd, aNot, aIf, aAndV, aOrV, aNotV, aSkip, aAsg, aAug, ex_vaint, tgN, aCall, gConsA, gNilA, gScA, gTownA, aPar2, aPar3, aV_eq, dI_i, dIC_i, dIx_t, dIx_l, dMin2_i, dMax2_i, dSumT_2, dLen_l, dLen_t, dEq_i, dNe_i, dEq_ni, dEq_in, dIs_i, dIs_n, dIsn_i, dIsn_n, dCat_l, dCatT_t, dListO_l, dListO_t, dTupleO_l, dTupleO_t, tgs2, tgs0, tgt, ite_t, ite_f, ex_l1i, ex_l1l, ex_l2l, ex_l1, ex_l2, ex_l3, ex_int, ex_bool, ex_some, ex_va, ex_ow, ex_sc, ex_list, ex_tuple, at0, at1, at2, at3, ln0, ln1, ln2, ln3, ln4, ln5, ln6, List.cons_append, List.nil_append, List.getElem?_cons_zero, List.getElem?_cons_succ, List.set_cons_zero, List.set_cons_succ, List.length_cons, List.length_nil, true_and, and_true, true_implies, forall_const, Bool.true_eq_false, Bool.false_eq_true, false_implies, decide_eq_true_eq, decide_eq_false_iff_not, Int.sub_self, Int.sub_zero, Int.reduceSub, Int.reduceAdd, Int.reduceNeg, Int.reduceEq, Int.reduceLT, Int.reduceLE, Int.reduceNe, if_true, if_false, reduceIte, decide_true, decide_false, decide_not, Bool.not_true, Bool.not_false, Bool.not_eq_true, Bool.not_eq_false]
        rw [Lr.coD_snoc]
        refine ⟨lineLe (by rw [List.length_map]; omega), Lr.key_ints _, ?_⟩
        refine ⟨_, rfl, ?_⟩
        simp only [List.map_cons, List.map_nil, aSeq, aLc, iL, iT, iR1, iE, iZ, aSlT, aSlL, aNoP, aPt, wipeE, aIfS, aT, aB, aBO, aC, aSet, aRet, aTup, aLst, aO, dCons, dNil, aCB, aCBO, aOr, aAnd, aNot, aIf, aAndV, aOrV, aNotV, aSkip, aAsg, aAug, ex_vaint, tgN, aCall, gConsA, gNilA, gScA, gTownA, aPar2, aPar3, aV_eq, dI_i, dIC_i, dIx_t, dIx_l, dMin2_i, dMax2_i, dSumT_2, dLen_l, dLen_t, dEq_i, dNe_i, dEq_ni, dEq_in, dIs_i, dIs_n, dIsn_i, dIsn_n, dCat_l, dCatT_t, dListO_l, dListO_t, dTupleO_l, dTupleO_t, tgs2, tgs0, tgt, ite_t, ite_f, ex_l1i, ex_l1l, ex_l2l, ex_l1, ex_l2, ex_l3, ex_int, ex_bool, ex_some, ex_va, ex_ow, ex_sc, ex_list, ex_tuple, at0, at1, at2, at3, ln0, ln1, ln2, ln3, ln4, ln5, ln6, List.cons_append, List.nil_append, List.getElem?_cons_zero, List.getElem?_cons_succ, List.set_cons_zero, List.set_cons_succ, List.length_cons, List.length_nil, true_and, and_true, true_implies, forall_const, Bool.true_eq_false, Bool.false_eq_true, false_implies, decide_eq_true_eq, decide_eq_false_iff_not, Int.sub_self, Int.sub_zero, Int.reduceSub, Int.reduceAdd, Int.reduceNeg, Int.reduceEq, Int.reduceLT, Int.reduceLE, Int.reduceNe, if_true, if_false, reduceIte, decide_true, decide_false, decide_not, Bool.not_true, Bool.not_false, Bool.not_eq_true, Bool.not_eq_false]
        exact Lr.m_comings rfl hnd ok1 (Lr.dNe_same (Lr.sh_co _) rfl ⟨false, rfl, fun z => (by cases z), fun _ => Lr.m_lights rfl hnd ok1 ((Lr.W_lights_l hc hr ok1.2.2).mpr (Lr.dNe_same (Lr.sh_lts _) rfl ⟨false, rfl, fun z => (by cases z), fun _ => hN _ ⟨b, a, dx, l1, l2, cs ++ [e], [], _, _, _, _, (by rw [List.length_append]; simp; omega), rfl, hnd, ok1, ⟨(by rw [List.length_append]; simp; omega), fun _ h => by cases h⟩, nv_va, nv_va, nv_va, v10, rfl⟩⟩))⟩)
      · simp only [aSetM, aCallMd, List.map_cons, List.map_nil, aSeq, aLc, iL, iT, iR1, iE, iZ, aSlT, aSlL, aNoP, aPt, wipeE, aIfS, aT, aB, aBO, aC, aSet, aRet, aTup, aLst, aO, dCons, dNil, aCB, aCBO, aOr, aAnd, aNot, aIf, aAndV, aOrV, aNotV, aSkip, aAsg, aAug, ex_vaint, tgN, aCall, gConsA, gNilA, gScA, gTownA, aPar2, aPar3, aV_eq, dI_i, dIC_i, dIx_t, dIx_l, dMin2_i, dMax2_i, dSumT_2, dLen_l, dLen_t, dEq_i, dNe_i, dEq_ni, dEq_in, dIs_i, dIs_n, dIsn_i, dIsn_n, dCat_l, dCatT_t, dListO_l, dListO_t, dTupleO_l, dTupleO_t, tgs2, tgs0, tgt, ite_t, ite_f, ex_l1i, ex_l1l, ex_l2l, ex_l1, ex_l2, ex_l3, ex_int, ex_bool, ex_some, ex_va, ex_ow, ex_sc, ex_list, ex_tuple, at0, at1, at2, at3, ln0, ln1, ln2, ln3, ln4, ln5, ln6, List.cons_append, List.nil_append, List.getElem?_cons_zero, List.getElem?_cons_succ, List.set_cons_zero, List.set_cons_succ, List.length_cons, List.length_nil, true_and, and_true, true_implies, forall_const, Bool.true_eq_false, Bool.false_eq_true, false_implies, decide_eq_true_eq, decide_eq_false_iff_not, Int.sub_self, Int.sub_zero, Int.reduceSub, Int.reduceAdd, Int.reduceNeg, Int.reduceEq, Int.reduceLT, Int.reduceLE, Int.reduceNe, if_true, if_false, reduceIte, decide_true, decide_false, decide_not, Bool.not_true, Bool.not_false, Bool.not_eq_true, Bool.not_eq_false]
        refine ⟨_, rfl, apart_no (no4 nv_va nv_va v9 v10), rfl, a, dx, l1, l2, _, true, rfl, sm, i_N, fun _ => ⟨fun xs k e => ?_, fun e => ?_⟩, fun z => (by cases z)⟩
        · have e : cs = xs ++ [k] := e
          subst e
          have en : decide (xs ++ [k] = []) = false := by simp
          have hl : (xs ++ [k]).length = xs.length + 1 := by simp
          refine ⟨_, rfl, ?_⟩
          simp only [List.map_cons, List.map_nil, aSeq, aLc, iL, iT, iR1, iE, iZ, aSlT, aSlL, aNoP, aPt, wipeE, aIfS, aT, aB, aBO, aC, aSet, aRet, aTup, aLst, aO, dCons, dNil, aCB, aCBO, aOr, aAnd, aNot, aIf, aAndV, aOrV, aNotV, aSkip, aAsg, aAug, ex_vaint, tgN, aCall, gConsA, gNilA, gScA, gTownA, aPar2, aPar3, aV_eq, dI_i, dIC_i, dIx_t, dIx_l, dMin2_i, dMax2_i, dSumT_2, dLen_l, dLen_t, dEq_i, dNe_i, dEq_ni, dEq_in, dIs_i, dIs_n, dIsn_i, dIsn_n, dCat_l, dCatT_t, dListO_l, dListO_t, dTupleO_l, dTupleO_t, tgs2, tgs0, tgt, ite_t, ite_f, ex_l1i, ex_l1l, ex_l2l, ex_l1, ex_l2, ex_l3, ex_int, ex_bool, ex_some, ex_va, ex_ow, ex_sc, ex_list, ex_tuple, at0, at1, at2, at3, ln0, ln1, ln2, ln3, ln4, ln5, ln6, List.cons_append, List.nil_append, List.getElem?_cons_zero, List.getElem?_cons_succ, List.set_cons_zero, List.set_cons_succ, List.length_cons, List.length_nil, true_and, and_true, true_implies, forall_const, Bool.true_eq_false, Bool.false_eq_true, false_implies, decide_eq_true_eq, decide_eq_false_iff_not, Int.sub_self, Int.sub_zero, Int.reduceSub, Int.reduceAdd, Int.reduceNeg, Int.reduceEq, Int.reduceLT, Int.reduceLE, Int.reduceNe, if_true, if_false, reduceIte, decide_true, decide_false, decide_not, Bool.not_true, Bool.not_false, Bool.not_eq_true, Bool.not_eq_false]
          refine Lr.dNe_co (cs := xs ++ [k]) (ds := []) ⟨true, by rw [en]; rfl, fun _ => ?_, fun z => (by cases z)⟩
          refine ⟨.int k, by rw [← Lr.coD_snoc]; exact Ab.atI_last _ _, Lr.dNe_same (n := 0) Sh.int rfl ⟨false, rfl, fun z => (by cases z), fun _ => ⟨false, rfl, .inl ⟨k, rfl, ?_⟩⟩⟩⟩
          refine Lr.dEq_co (cs := xs ++ [k]) (ds := []) ?_
          rw [en]
          refine Lr.dNe_same (n := 0) Sh.bool rfl ⟨false, rfl, fun z => (by cases z), fun _ => ⟨_, rfl, ?_⟩⟩
          simp only [List.map_cons, List.map_nil, aSeq, aLc, iL, iT, iR1, iE, iZ, aSlT, aSlL, aNoP, aPt, wipeE, aIfS, aT, aB, aBO, aC, aSet, aRet, aTup, aLst, aO, dCons, dNil, aCB, aCBO, aOr, aAnd, aNot, aIf, aAndV, aOrV, aNotV, aSkip, aAsg, aAug, ex_vaint, tgN, aCall, gConsA, gNilA, gScA, gTownA, aPar2, aPar3, aV_eq, dI_i, dIC_i, dIx_t, dIx_l, dMin2_i, dMax2_i, dSumT_2, dLen_l, dLen_t, dEq_i, dNe_i, dEq_ni, dEq_in, dIs_i, dIs_n, dIsn_i, dIsn_n, dCat_l, dCatT_t, dListO_l, dListO_t, dTupleO_l, dTupleO_t, tgs2, tgs0, tgt, ite_t, ite_f, ex_l1i, ex_l1l, ex_l2l, ex_l1, ex_l2, ex_l3, ex_int, ex_bool, ex_some, ex_va, ex_ow, ex_sc, ex_list, ex_tuple, at0, at1, at2, at3, ln0, ln1, ln2, ln3, ln4, ln5, ln6, List.cons_append, List.nil_append, List.getElem?_cons_zero, List.getElem?_cons_succ, List.set_cons_zero, List.set_cons_succ, List.length_cons, List.length_nil, true_and, and_true, true_implies, forall_const, Bool.true_eq_false, Bool.false_eq_true, false_implies, decide_eq_true_eq, decide_eq_false_iff_not, Int.sub_self, Int.sub_zero, Int.reduceSub, Int.reduceAdd, Int.reduceNeg, Int.reduceEq, Int.reduceLT, Int.reduceLE, Int.reduceNe, if_true, if_false, reduceIte, decide_true, decide_false, decide_not, Bool.not_true, Bool.not_false, Bool.not_eq_true, Bool.not_eq_false]
          refine Lr.dNe_co (cs := xs ++ [k]) (ds := []) ⟨true, by rw [en]; rfl, fun _ => ?_, fun z => (by cases z)⟩
          have ok2 : Lr.DkOk ⟨room, pause, rule, xs, un ++ [k]⟩ := ⟨hc, hr, by have := ok.2.2.1; rw [hl] at this; show xs.length ≤ 40; omega, fun z hz => ok.2.2.2 z (List.mem_append_left _ hz)⟩
          have kc : Lr.ComOk k := ok.2.2.2 k (List.mem_append_right _ List.mem_cons_self)
          refine ⟨un.map PyData.int, xs.map PyData.int, .int k, rfl, by rw [Lr.coD_snoc]; rfl, by rw [List.length_map]; omega, ?_⟩
          simp only [List.map_cons, List.map_nil, aSeq, aLc, iL, iT, iR1, iE, iZ, aSlT, aSlL, aNoP, aPt, wipeE, aIfS, aT, aB, aBO, aC, aSet, aRet, aTup, aLst, aO, dCons, dNil, aCB, aCBO, aOr, aAnd, aNot, aIf, aAndV, aOrV, aNotV, aSkip, aAsg, aAug, ex_vaint, tgN, aCall, gConsA, gNilA, gScA, gTownA, aPar2, aPar3, aV_eq, dI_i, dIC_i, dIx_t, dIx_l, dMin2_i, dMax2_i, dSumT_2, dLen_l, dLen_t, dEq_i, dNe_i, dEq_ni, dEq_in, dIs_i, dIs_n, dIsn_i, dIsn_n, dCat_l, dCatT_t, dListO_l, dListO_t, dTupleO_l, dTupleO_t, tgs2, tgs0, tgt, ite_t, ite_f, ex_l1i, ex_l1l, ex_l2l, ex_l1, ex_l2, ex_l3, ex_int, ex_bool, ex_some, ex_va, ex_ow, ex_sc, ex_list, ex_tuple, at0, at1, at2, at3, ln0, ln1, ln2, ln3, ln4, ln5, ln6, List.cons_append, List.nil_append, List.getElem?_cons_zero, List.getElem?_cons_succ, List.set_cons_zero, List.set_cons_succ, List.length_cons, List.length_nil, true_and, and_true, true_implies, forall_const, Bool.true_eq_false, Bool.false_eq_true, false_implies, decide_eq_true_eq, decide_eq_false_iff_not, Int.sub_self, Int.sub_zero, Int.reduceSub, Int.reduceAdd, Int.reduceNeg, Int.reduceEq, Int.reduceLT, Int.reduceLE, Int.reduceNe, if_true, if_false, reduceIte, decide_true, decide_false, decide_not, Bool.not_true, Bool.not_false, Bool.not_eq_true, Bool.not_eq_false]
          rw [Lr.coD_snoc]
          refine ⟨_, rfl, ?_⟩
          simp only [List.map_cons, List.map_nil, aSeq, aLc, iL, iT, iR1, iE, iZ, aSlT, aSlL, aNoP, aPt, wipeE, aIfS, aT, aB, aBO, aC, aSet, aRet, aTup, aLst, aO, dCons, dNil, aCB, aCBO, aOr, aAnd, aNot, aIf, aAndV, aOrV, aNotV, aSkip, aAsg, aAug, ex_vaint, tgN, aCall, gConsA, gNilA, gScA, gTownA, aPar2, aPar3, aV_eq, dI_i, dIC_i, dIx_t, dIx_l, dMin2_i, dMax2_i, dSumT_2, dLen_l, dLen_t, dEq_i, dNe_i, dEq_ni, dEq_in, dIs_i, dIs_n, dIsn_i, dIsn_n, dCat_l, dCatT_t, dListO_l, dListO_t, dTupleO_l, dTupleO_t, tgs2, tgs0, tgt, ite_t, ite_f, ex_l1i, ex_l1l, ex_l2l, ex_l1, ex_l2, ex_l3, ex_int, ex_bool, ex_some, ex_va, ex_ow, ex_sc, ex_list, ex_tuple, at0, at1, at2, at3, ln0, ln1, ln2, ln3, ln4, ln5, ln6, List.cons_append, List.nil_append, List.getElem?_cons_zero, List.getElem?_cons_succ, List.set_cons_zero, List.set_cons_succ, List.length_cons, List.length_nil, true_and, and_true, true_implies, forall_const, Bool.true_eq_false, Bool.false_eq_true, false_implies, decide_eq_true_eq, decide_eq_false_iff_not, Int.sub_self, Int.sub_zero, Int.reduceSub, Int.reduceAdd, Int.reduceNeg, Int.reduceEq, Int.reduceLT, Int.reduceLE, Int.reduceNe, if_true, if_false, reduceIte, decide_true, decide_false, decide_not, Bool.not_true, Bool.not_false, Bool.not_eq_true, Bool.not_eq_false]
          exact Lr.m_comings rfl hnd ok2 (Lr.dNe_same (Lr.sh_co _) rfl ⟨false, rfl, fun z => (by cases z), fun _ => Lr.m_lights rfl hnd ok2 ((Lr.W_lights_l hc hr ok2.2.2).mpr (Lr.dNe_same (Lr.sh_lts _) rfl ⟨false, rfl, fun z => (by cases z), fun _ => hN _ ⟨b, a, dx, l1, l2, xs, un ++ [k], _, _, _, _, (by rw [List.length_append, List.length_singleton]; omega), rfl, hnd, ok2, ⟨(by show xs.length + (un ++ [k]).length ≤ 40; rw [List.length_append, List.length_singleton]; omega), fun z hz => (by rcases List.mem_append.mp hz with h | h; exact sm.2 z h; rw [List.mem_singleton.mp h]; exact kc)⟩, nv_va, nv_va, v9, nv_va, rfl⟩⟩))⟩)
        · have e : cs = [] := e
          subst e
          refine ⟨_, rfl, ?_⟩
          simp only [List.map_cons, List.map_nil, aSeq, aLc, iL, iT, iR1, iE, iZ, aSlT, aSlL, aNoP, aPt, wipeE, aIfS, aT, aB, aBO, aC, aSet, aRet, aTup, aLst, aO, dCons, dNil, aCB, aCBO, aOr, aAnd, aNot, aIf, aAndV, aOrV, aNotV, aSkip, aAsg, aAug, ex_vaint, tgN, aCall, gConsA, gNilA, gScA, gTownA, aPar2, aPar3, aV_eq, dI_i, dIC_i, dIx_t, dIx_l, dMin2_i, dMax2_i, dSumT_2, dLen_l, dLen_t, dEq_i, dNe_i, dEq_ni, dEq_in, dIs_i, dIs_n, dIsn_i, dIsn_n, dCat_l, dCatT_t, dListO_l, dListO_t, dTupleO_l, dTupleO_t, tgs2, tgs0, tgt, ite_t, ite_f, ex_l1i, ex_l1l, ex_l2l, ex_l1, ex_l2, ex_l3, ex_int, ex_bool, ex_some, ex_va, ex_ow, ex_sc, ex_list, ex_tuple, at0, at1, at2, at3, ln0, ln1, ln2, ln3, ln4, ln5, ln6, List.cons_append, List.nil_append, List.getElem?_cons_zero, List.getElem?_cons_succ, List.set_cons_zero, List.set_cons_succ, List.length_cons, List.length_nil, true_and, and_true, true_implies, forall_const, Bool.true_eq_false, Bool.false_eq_true, false_implies, decide_eq_true_eq, decide_eq_false_iff_not, Int.sub_self, Int.sub_zero, Int.reduceSub, Int.reduceAdd, Int.reduceNeg, Int.reduceEq, Int.reduceLT, Int.reduceLE, Int.reduceNe, if_true, if_false, reduceIte, decide_true, decide_false, decide_not, Bool.not_true, Bool.not_false, Bool.not_eq_true, Bool.not_eq_false]
          have s0 : Sh 1 (PyData.list []) := Sh.list Sh.nil
          refine Lr.dNe_same s0 rfl ⟨false, rfl, fun z => (by cases z), fun _ => Lr.dNe_same (n := 0) Sh.bool rfl ⟨false, rfl, fun z => (by cases z), fun _ => ⟨false, rfl, .inr ⟨false, rfl, Lr.dEq_same s0 rfl (Lr.dNe_same (n := 0) Sh.bool rfl ⟨false, rfl, fun z => (by cases z), fun _ => ⟨_, rfl, ?_⟩⟩)⟩⟩⟩⟩
          simp only [List.map_cons, List.map_nil, aSeq, aLc, iL, iT, iR1, iE, iZ, aSlT, aSlL, aNoP, aPt, wipeE, aIfS, aT, aB, aBO, aC, aSet, aRet, aTup, aLst, aO, dCons, dNil, aCB, aCBO, aOr, aAnd, aNot, aIf, aAndV, aOrV, aNotV, aSkip, aAsg, aAug, ex_vaint, tgN, aCall, gConsA, gNilA, gScA, gTownA, aPar2, aPar3, aV_eq, dI_i, dIC_i, dIx_t, dIx_l, dMin2_i, dMax2_i, dSumT_2, dLen_l, dLen_t, dEq_i, dNe_i, dEq_ni, dEq_in, dIs_i, dIs_n, dIsn_i, dIsn_n, dCat_l, dCatT_t, dListO_l, dListO_t, dTupleO_l, dTupleO_t, tgs2, tgs0, tgt, ite_t, ite_f, ex_l1i, ex_l1l, ex_l2l, ex_l1, ex_l2, ex_l3, ex_int, ex_bool, ex_some, ex_va, ex_ow, ex_sc, ex_list, ex_tuple, at0, at1, at2, at3, ln0, ln1, ln2, ln3, ln4, ln5, ln6, List.cons_append, List.nil_append, List.getElem?_cons_zero, List.getElem?_cons_succ, List.set_cons_zero, List.set_cons_succ, List.length_cons, List.length_nil, true_and, and_true, true_implies, forall_const, Bool.true_eq_false, Bool.false_eq_true, false_implies, decide_eq_true_eq, decide_eq_false_iff_not, Int.sub_self, Int.sub_zero, Int.reduceSub, Int.reduceAdd, Int.reduceNeg, Int.reduceEq, Int.reduceLT, Int.reduceLE, Int.reduceNe, if_true, if_false, reduceIte, decide_true, decide_false, decide_not, Bool.not_true, Bool.not_false, Bool.not_eq_true, Bool.not_eq_false]
          refine Lr.dNe_same s0 rfl ⟨false, rfl, fun z => (by cases z), fun _ => ?_⟩
          refine ⟨_, rfl, ?_⟩
          simp only [List.map_cons, List.map_nil, aSeq, aLc, iL, iT, iR1, iE, iZ, aSlT, aSlL, aNoP, aPt, wipeE, aIfS, aT, aB, aBO, aC, aSet, aRet, aTup, aLst, aO, dCons, dNil, aCB, aCBO, aOr, aAnd, aNot, aIf, aAndV, aOrV, aNotV, aSkip, aAsg, aAug, ex_vaint, tgN, aCall, gConsA, gNilA, gScA, gTownA, aPar2, aPar3, aV_eq, dI_i, dIC_i, dIx_t, dIx_l, dMin2_i, dMax2_i, dSumT_2, dLen_l, dLen_t, dEq_i, dNe_i, dEq_ni, dEq_in, dIs_i, dIs_n, dIsn_i, dIsn_n, dCat_l, dCatT_t, dListO_l, dListO_t, dTupleO_l, dTupleO_t, tgs2, tgs0, tgt, ite_t, ite_f, ex_l1i, ex_l1l, ex_l2l, ex_l1, ex_l2, ex_l3, ex_int, ex_bool, ex_some, ex_va, ex_ow, ex_sc, ex_list, ex_tuple, at0, at1, at2, at3, ln0, ln1, ln2, ln3, ln4, ln5, ln6, List.cons_append, List.nil_append, List.getElem?_cons_zero, List.getElem?_cons_succ, List.set_cons_zero, List.set_cons_succ, List.length_cons, List.length_nil, true_and, and_true, true_implies, forall_const, Bool.true_eq_false, Bool.false_eq_true, false_implies, decide_eq_true_eq, decide_eq_false_iff_not, Int.sub_self, Int.sub_zero, Int.reduceSub, Int.reduceAdd, Int.reduceNeg, Int.reduceEq, Int.reduceLT, Int.reduceLE, Int.reduceNe, if_true, if_false, reduceIte, decide_true, decide_false, decide_not, Bool.not_true, Bool.not_false, Bool.not_eq_true, Bool.not_eq_false]
          exact Lr.m_comings rfl hnd ok (Lr.dNe_same (Lr.sh_co _) rfl ⟨false, rfl, fun z => (by cases z), fun _ => Lr.m_lights rfl hnd ok ((Lr.W_lights_l hc hr ok.2.2).mpr (Lr.dNe_same (Lr.sh_lts _) rfl ⟨false, rfl, fun z => (by cases z), fun _ => hN _ ⟨b, a, dx, l1, l2, [], un, _, _, _, _, (by simp at hlen ⊢; omega), rfl, hnd, ok, sm, nv_va, nv_va, v9, nv_va, rfl⟩⟩))⟩)
      · simp only [aSetM, aCallMd, List.map_cons, List.map_nil, aSeq, aLc, iL, iT, iR1, iE, iZ, aSlT, aSlL, aNoP, aPt, wipeE, aIfS, aT, aB, aBO, aC, aSet, aRet, aTup, aLst, aO, dCons, dNil, aCB, aCBO, aOr, aAnd, aNot, aIf, aAndV, aOrV, aNotV, aSkip, aAsg, aAug, ex_vaint, tgN, aCall, gConsA, gNilA, gScA, gTownA, aPar2, aPar3, aV_eq, dI_i, dIC_i, dIx_t, dIx_l, dMin2_i, dMax2_i, dSumT_2, dLen_l, dLen_t, dEq_i, dNe_i, dEq_ni, dEq_in, dIs_i, dIs_n, dIsn_i, dIsn_n, dCat_l, dCatT_t, dListO_l, dListO_t, dTupleO_l, dTupleO_t, tgs2, tgs0, tgt, ite_t, ite_f, ex_l1i, ex_l1l, ex_l2l, ex_l1, ex_l2, ex_l3, ex_int, ex_bool, ex_some, ex_va, ex_ow, ex_sc, ex_list, ex_tuple, at0, at1, at2, at3, ln0, ln1, ln2, ln3, ln4, ln5, ln6, List.cons_append, List.nil_append, List.getElem?_cons_zero, List.getElem?_cons_succ, List.set_cons_zero, List.set_cons_succ, List.length_cons, List.length_nil, true_and, and_true, true_implies, forall_const, Bool.true_eq_false, Bool.false_eq_true, false_implies, decide_eq_true_eq, decide_eq_false_iff_not, Int.sub_self, Int.sub_zero, Int.reduceSub, Int.reduceAdd, Int.reduceNeg, Int.reduceEq, Int.reduceLT, Int.reduceLE, Int.reduceNe, if_true, if_false, reduceIte, decide_true, decide_false, decide_not, Bool.not_true, Bool.not_false, Bool.not_eq_true, Bool.not_eq_false]
        refine ⟨_, rfl, apart_no (no4 nv_va nv_va v9 v10), rfl, a, dx, l1, l2, _, false, rfl, sm, i_N, fun z => (by cases z), fun _ => ⟨fun xs k e => ?_, fun e => ?_⟩⟩
        · have e : un = xs ++ [k] := e
          subst e
          have en : decide (xs ++ [k] = []) = false := by simp
          have hl : (xs ++ [k]).length = xs.length + 1 := by simp
          refine ⟨_, rfl, ?_⟩
          simp only [List.map_cons, List.map_nil, aSeq, aLc, iL, iT, iR1, iE, iZ, aSlT, aSlL, aNoP, aPt, wipeE, aIfS, aT, aB, aBO, aC, aSet, aRet, aTup, aLst, aO, dCons, dNil, aCB, aCBO, aOr, aAnd, aNot, aIf, aAndV, aOrV, aNotV, aSkip, aAsg, aAug, ex_vaint, tgN, aCall, gConsA, gNilA, gScA, gTownA, aPar2, aPar3, aV_eq, dI_i, dIC_i, dIx_t, dIx_l, dMin2_i, dMax2_i, dSumT_2, dLen_l, dLen_t, dEq_i, dNe_i, dEq_ni, dEq_in, dIs_i, dIs_n, dIsn_i, dIsn_n, dCat_l, dCatT_t, dListO_l, dListO_t, dTupleO_l, dTupleO_t, tgs2, tgs0, tgt, ite_t, ite_f, ex_l1i, ex_l1l, ex_l2l, ex_l1, ex_l2, ex_l3, ex_int, ex_bool, ex_some, ex_va, ex_ow, ex_sc, ex_list, ex_tuple, at0, at1, at2, at3, ln0, ln1, ln2, ln3, ln4, ln5, ln6, List.cons_append, List.nil_append, List.getElem?_cons_zero, List.getElem?_cons_succ, List.set_cons_zero, List.set_cons_succ, List.length_cons, List.length_nil, true_and, and_true, true_implies, forall_const, Bool.true_eq_false, Bool.false_eq_true, false_implies, decide_eq_true_eq, decide_eq_false_iff_not, Int.sub_self, Int.sub_zero, Int.reduceSub, Int.reduceAdd, Int.reduceNeg, Int.reduceEq, Int.reduceLT, Int.reduceLE, Int.reduceNe, if_true, if_false, reduceIte, decide_true, decide_false, decide_not, Bool.not_true, Bool.not_false, Bool.not_eq_true, Bool.not_eq_false]
          refine Lr.dNe_co (cs := xs ++ [k]) (ds := []) ⟨true, by rw [en]; rfl, fun _ => ?_, fun z => (by cases z)⟩
          refine ⟨.int k, by rw [← Lr.coD_snoc]; exact Ab.atI_last _ _, Lr.dNe_same (n := 0) Sh.int rfl ⟨false, rfl, fun z => (by cases z), fun _ => ⟨false, rfl, .inl ⟨k, rfl, ?_⟩⟩⟩⟩
          refine Lr.dEq_co (cs := xs ++ [k]) (ds := []) ?_
          rw [en]
          refine Lr.dNe_same (n := 0) Sh.bool rfl ⟨false, rfl, fun z => (by cases z), fun _ => ⟨_, rfl, ?_⟩⟩
          simp only [List.map_cons, List.map_nil, aSeq, aLc, iL, iT, iR1, iE, iZ, aSlT, aSlL, aNoP, aPt, wipeE, aIfS, aT, aB, aBO, aC, aSet, aRet, aTup, aLst, aO, dCons, dNil, aCB, aCBO, aOr, aAnd, aNot, aIf, aAndV, aOrV, aNotV, aSkip, aAsg, aAug, ex_vaint, tgN, aCall, gConsA, gNilA, gScA, gTownA, aPar2, aPar3, aV_eq, dI_i, dIC_i, dIx_t, dIx_l, dMin2_i, dMax2_i, dSumT_2, dLen_l, dLen_t, dEq_i, dNe_i, dEq_ni, dEq_in, dIs_i, dIs_n, dIsn_i, dIsn_n, dCat_l, dCatT_t, dListO_l, dListO_t, dTupleO_l, dTupleO_t, tgs2, tgs0, tgt, ite_t, ite_f, ex_l1i, ex_l1l, ex_l2l, ex_l1, ex_l2, ex_l3, ex_int, ex_bool, ex_some, ex_va, ex_ow, ex_sc, ex_list, ex_tuple, at0, at1, at2, at3, ln0, ln1, ln2, ln3, ln4, ln5, ln6, List.cons_append, List.nil_append, List.getElem?_cons_zero, List.getElem?_cons_succ, List.set_cons_zero, List.set_cons_succ, List.length_cons, List.length_nil, true_and, and_true, true_implies, forall_const, Bool.true_eq_false, Bool.false_eq_true, false_implies, decide_eq_true_eq, decide_eq_false_iff_not, Int.sub_self, Int.sub_zero, Int.reduceSub, Int.reduceAdd, Int.reduceNeg, Int.reduceEq, Int.reduceLT, Int.reduceLE, Int.reduceNe, if_true, if_false, reduceIte, decide_true, decide_false, decide_not, Bool.not_true, Bool.not_false, Bool.not_eq_true, Bool.not_eq_false]
          refine Lr.dNe_co (cs := xs ++ [k]) (ds := []) ⟨true, by rw [en]; rfl, fun _ => ?_, fun z => (by cases z)⟩
          have kc : Lr.ComOk k := sm.2 k (List.mem_append_right _ List.mem_cons_self)
          have ok2 : Lr.DkOk ⟨room, pause, rule, cs ++ [k], xs⟩ := ⟨hc, hr, by show (cs ++ [k]).length ≤ 40; rw [List.length_append, List.length_singleton]; omega, fun z hz => (by rcases List.mem_append.mp hz with h | h; exact ok.2.2.2 z h; rw [List.mem_singleton.mp h]; exact kc)⟩
          refine ⟨cs.map PyData.int, xs.map PyData.int, .int k, rfl, by rw [Lr.coD_snoc]; rfl, by rw [List.length_map]; omega, ?_⟩
          simp only [List.map_cons, List.map_nil, aSeq, aLc, iL, iT, iR1, iE, iZ, aSlT, aSlL, aNoP, aPt, wipeE, aIfS, aT, aB, aBO, aC, aSet, aRet, aTup, aLst, aO, dCons, dNil, aCB, aCBO, aOr, aAnd, aNot, aIf, aAndV, aOrV, aNotV, aSkip, aAsg, aAug, ex_vaint, tgN, aCall, gConsA, gNilA, gScA, gTownA, aPar2, aPar3, aV_eq, dI_i, dIC_i, dIx_t, dIx_l, dMin2_i, dMax2_i, dSumT_2, dLen_l, dLen_t, dEq_i, dNe_i, dEq_ni, dEq_in, dIs_i, dIs_n, dIsn_i, dIsn_n, dCat_l, dCatT_t, dListO_l, dListO_t, dTupleO_l, dTupleO_t, tgs2, tgs0, tgt, ite_t, ite_f, ex_l1i, ex_l1l, ex_l2l, ex_l1, ex_l2, ex_l3, ex_int, ex_bool, ex_some, ex_va, ex_ow, ex_sc, ex_list, ex_tuple, at0, at1, at2, at3, ln0, ln1, ln2, ln3, ln4, ln5, ln6, List.cons_append, List.nil_append, List.getElem?_cons_zero, List.getElem?_cons_succ, List.set_cons_zero, List.set_cons_succ, List.length_cons, List.length_nil, true_and, and_true, true_implies, forall_const, Bool.true_eq_false, Bool.false_eq_true, false_implies, decide_eq_true_eq, decide_eq_false_iff_not, Int.sub_self, Int.sub_zero, Int.reduceSub, Int.reduceAdd, Int.reduceNeg, Int.reduceEq, Int.reduceLT, Int.reduceLE, Int.reduceNe, if_true, if_false, reduceIte, decide_true, decide_false, decide_not, Bool.not_true, Bool.not_false, Bool.not_eq_true, Bool.not_eq_false]
          rw [Lr.coD_snoc]
          refine ⟨_, rfl, ?_⟩
          simp only [List.map_cons, List.map_nil, aSeq, aLc, iL, iT, iR1, iE, iZ, aSlT, aSlL, aNoP, aPt, wipeE, aIfS, aT, aB, aBO, aC, aSet, aRet, aTup, aLst, aO, dCons, dNil, aCB, aCBO, aOr, aAnd, aNot, aIf, aAndV, aOrV, aNotV, aSkip, aAsg, aAug, ex_vaint, tgN, aCall, gConsA, gNilA, gScA, gTownA, aPar2, aPar3, aV_eq, dI_i, dIC_i, dIx_t, dIx_l, dMin2_i, dMax2_i, dSumT_2, dLen_l, dLen_t, dEq_i, dNe_i, dEq_ni, dEq_in, dIs_i, dIs_n, dIsn_i, dIsn_n, dCat_l, dCatT_t, dListO_l, dListO_t, dTupleO_l, dTupleO_t, tgs2, tgs0, tgt, ite_t, ite_f, ex_l1i, ex_l1l, ex_l2l, ex_l1, ex_l2, ex_l3, ex_int, ex_bool, ex_some, ex_va, ex_ow, ex_sc, ex_list, ex_tuple, at0, at1, at2, at3, ln0, ln1, ln2, ln3, ln4, ln5, ln6, List.cons_append, List.nil_append, List.getElem?_cons_zero, List.getElem?_cons_succ, List.set_cons_zero, List.set_cons_succ, List.length_cons, List.length_nil, true_and, and_true, true_implies, forall_const, Bool.true_eq_false, Bool.false_eq_true, false_implies, decide_eq_true_eq, decide_eq_false_iff_not, Int.sub_self, Int.sub_zero, Int.reduceSub, Int.reduceAdd, Int.reduceNeg, Int.reduceEq, Int.reduceLT, Int.reduceLE, Int.reduceNe, if_true, if_false, reduceIte, decide_true, decide_false, decide_not, Bool.not_true, Bool.not_false, Bool.not_eq_true, Bool.not_eq_false]
          exact Lr.m_comings rfl hnd ok2 (Lr.dNe_same (Lr.sh_co _) rfl ⟨false, rfl, fun z => (by cases z), fun _ => Lr.m_lights rfl hnd ok2 ((Lr.W_lights_l hc hr ok2.2.2).mpr (Lr.dNe_same (Lr.sh_lts _) rfl ⟨false, rfl, fun z => (by cases z), fun _ => hN _ ⟨b, a, dx, l1, l2, cs ++ [k], xs, _, _, _, _, (by rw [List.length_append, List.length_singleton]; omega), rfl, hnd, ok2, ⟨(by show (cs ++ [k]).length + xs.length ≤ 40; rw [List.length_append, List.length_singleton]; omega), fun z hz => sm.2 z (List.mem_append_left _ hz)⟩, nv_va, nv_va, v9, nv_va, rfl⟩⟩))⟩)
        · have e : un = [] := e
          subst e
          refine ⟨_, rfl, ?_⟩
          simp only [List.map_cons, List.map_nil, aSeq, aLc, iL, iT, iR1, iE, iZ, aSlT, aSlL, aNoP, aPt, wipeE, aIfS, aT, aB, aBO, aC, aSet, aRet, aTup, aLst, aO, dCons, dNil, aCB, aCBO, aOr, aAnd, aNot, aIf, aAndV, aOrV, aNotV, aSkip, aAsg, aAug, ex_vaint, tgN, aCall, gConsA, gNilA, gScA, gTownA, aPar2, aPar3, aV_eq, dI_i, dIC_i, dIx_t, dIx_l, dMin2_i, dMax2_i, dSumT_2, dLen_l, dLen_t, dEq_i, dNe_i, dEq_ni, dEq_in, dIs_i, dIs_n, dIsn_i, dIsn_n, dCat_l, dCatT_t, dListO_l, dListO_t, dTupleO_l, dTupleO_t, tgs2, tgs0, tgt, ite_t, ite_f, ex_l1i, ex_l1l, ex_l2l, ex_l1, ex_l2, ex_l3, ex_int, ex_bool, ex_some, ex_va, ex_ow, ex_sc, ex_list, ex_tuple, at0, at1, at2, at3, ln0, ln1, ln2, ln3, ln4, ln5, ln6, List.cons_append, List.nil_append, List.getElem?_cons_zero, List.getElem?_cons_succ, List.set_cons_zero, List.set_cons_succ, List.length_cons, List.length_nil, true_and, and_true, true_implies, forall_const, Bool.true_eq_false, Bool.false_eq_true, false_implies, decide_eq_true_eq, decide_eq_false_iff_not, Int.sub_self, Int.sub_zero, Int.reduceSub, Int.reduceAdd, Int.reduceNeg, Int.reduceEq, Int.reduceLT, Int.reduceLE, Int.reduceNe, if_true, if_false, reduceIte, decide_true, decide_false, decide_not, Bool.not_true, Bool.not_false, Bool.not_eq_true, Bool.not_eq_false]
          have s0 : Sh 1 (PyData.list []) := Sh.list Sh.nil
          refine Lr.dNe_same s0 rfl ⟨false, rfl, fun z => (by cases z), fun _ => Lr.dNe_same (n := 0) Sh.bool rfl ⟨false, rfl, fun z => (by cases z), fun _ => ⟨false, rfl, .inr ⟨false, rfl, Lr.dEq_same s0 rfl (Lr.dNe_same (n := 0) Sh.bool rfl ⟨false, rfl, fun z => (by cases z), fun _ => ⟨_, rfl, ?_⟩⟩)⟩⟩⟩⟩
          simp only [List.map_cons, List.map_nil, aSeq, aLc, iL, iT, iR1, iE, iZ, aSlT, aSlL, aNoP, aPt, wipeE, aIfS, aT, aB, aBO, aC, aSet, aRet, aTup, aLst, aO, dCons, dNil, aCB, aCBO, aOr, aAnd, aNot, aIf, aAndV, aOrV, aNotV, aSkip, aAsg, aAug, ex_vaint, tgN, aCall, gConsA, gNilA, gScA, gTownA, aPar2, aPar3, aV_eq, dI_i, dIC_i, dIx_t, dIx_l, dMin2_i, dMax2_i, dSumT_2, dLen_l, dLen_t, dEq_i, dNe_i, dEq_ni, dEq_in, dIs_i, dIs_n, dIsn_i, dIsn_n, dCat_l, dCatT_t, dListO_l, dListO_t, dTupleO_l, dTupleO_t, tgs2, tgs0, tgt, ite_t, ite_f, ex_l1i, ex_l1l, ex_l2l, ex_l1, ex_l2, ex_l3, ex_int, ex_bool, ex_some, ex_va, ex_ow, ex_sc, ex_list, ex_tuple, at0, at1, at2, at3, ln0, ln1, ln2, ln3, ln4, ln5, ln6, List.cons_append, List.nil_append, List.getElem?_cons_zero, List.getElem?_cons_succ, List.set_cons_zero, List.set_cons_succ, List.length_cons, List.length_nil, true_and, and_true, true_implies, forall_const, Bool.true_eq_false, Bool.false_eq_true, false_implies, decide_eq_true_eq, decide_eq_false_iff_not, Int.sub_self, Int.sub_zero, Int.reduceSub, Int.reduceAdd, Int.reduceNeg, Int.reduceEq, Int.reduceLT, Int.reduceLE, Int.reduceNe, if_true, if_false, reduceIte, decide_true, decide_false, decide_not, Bool.not_true, Bool.not_false, Bool.not_eq_true, Bool.not_eq_false]
          refine Lr.dNe_same s0 rfl ⟨false, rfl, fun z => (by cases z), fun _ => ?_⟩
          refine ⟨_, rfl, ?_⟩
          simp only [List.map_cons, List.map_nil, aSeq, aLc, iL, iT, iR1, iE, iZ, aSlT, aSlL, aNoP, aPt, wipeE, aIfS, aT, aB, aBO, aC, aSet, aRet, aTup, aLst, aO, dCons, dNil, aCB, aCBO, aOr, aAnd, aNot, aIf, aAndV, aOrV, aNotV, aSkip, aAsg, aAug, ex_vaint, tgN, aCall, gConsA, gNilA, gScA, gTownA, aPar2, aPar3, aV_eq, dI_i, dIC_i, dIx_t, dIx_l, dMin2_i, dMax2_i, dSumT_2, dLen_l, dLen_t, dEq_i, dNe_i, dEq_ni, dEq_in, dIs_i, dIs_n, dIsn_i, dIsn_n, dCat_l, dCatT_t, dListO_l, dListO_t, dTupleO_l, dTupleO_t, tgs2, tgs0, tgt, ite_t, ite_f, ex_l1i, ex_l1l, ex_l2l, ex_l1, ex_l2, ex_l3, ex_int, ex_bool, ex_some, ex_va, ex_ow, ex_sc, ex_list, ex_tuple, at0, at1, at2, at3, ln0, ln1, ln2, ln3, ln4, ln5, ln6, List.cons_append, List.nil_append, List.getElem?_cons_zero, List.getElem?_cons_succ, List.set_cons_zero, List.set_cons_succ, List.length_cons, List.length_nil, true_and, and_true, true_implies, forall_const, Bool.true_eq_false, Bool.false_eq_true, false_implies, decide_eq_true_eq, decide_eq_false_iff_not, Int.sub_self, Int.sub_zero, Int.reduceSub, Int.reduceAdd, Int.reduceNeg, Int.reduceEq, Int.reduceLT, Int.reduceLE, Int.reduceNe, if_true, if_false, reduceIte, decide_true, decide_false, decide_not, Bool.not_true, Bool.not_false, Bool.not_eq_true, Bool.not_eq_false]
          exact Lr.m_comings rfl hnd ok (Lr.dNe_same (Lr.sh_co _) rfl ⟨false, rfl, fun z => (by cases z), fun _ => Lr.m_lights rfl hnd ok ((Lr.W_lights_l hc hr ok.2.2).mpr (Lr.dNe_same (Lr.sh_lts _) rfl ⟨false, rfl, fun z => (by cases z), fun _ => hN _ ⟨b, a, dx, l1, l2, cs, [], _, _, _, _, (by simp at hlen ⊢; omega), rfl, hnd, ok, sm, nv_va, nv_va, v9, nv_va, rfl⟩⟩))⟩)
      · simp only [aSetDNo, List.map_cons, List.map_nil, aSeq, aLc, iL, iT, iR1, iE, iZ, aSlT, aSlL, aNoP, aPt, wipeE, aIfS, aT, aB, aBO, aC, aSet, aRet, aTup, aLst, aO, dCons, dNil, aCB, aCBO, aOr, aAnd, aNot, aIf, aAndV, aOrV, aNotV, aSkip, aAsg, aAug, ex_vaint, tgN, aCall, gConsA, gNilA, gScA, gTownA, aPar2, aPar3, aV_eq, dI_i, dIC_i, dIx_t, dIx_l, dMin2_i, dMax2_i, dSumT_2, dLen_l, dLen_t, dEq_i, dNe_i, dEq_ni, dEq_in, dIs_i, dIs_n, dIsn_i, dIsn_n, dCat_l, dCatT_t, dListO_l, dListO_t, dTupleO_l, dTupleO_t, tgs2, tgs0, tgt, ite_t, ite_f, ex_l1i, ex_l1l, ex_l2l, ex_l1, ex_l2, ex_l3, ex_int, ex_bool, ex_some, ex_va, ex_ow, ex_sc, ex_list, ex_tuple, at0, at1, at2, at3, ln0, ln1, ln2, ln3, ln4, ln5, ln6, List.cons_append, List.nil_append, List.getElem?_cons_zero, List.getElem?_cons_succ, List.set_cons_zero, List.set_cons_succ, List.length_cons, List.length_nil, true_and, and_true, true_implies, forall_const, Bool.true_eq_false, Bool.false_eq_true, false_implies, decide_eq_true_eq, decide_eq_false_iff_not, Int.sub_self, Int.sub_zero, Int.reduceSub, Int.reduceAdd, Int.reduceNeg, Int.reduceEq, Int.reduceLT, Int.reduceLE, Int.reduceNe, if_true, if_false, reduceIte, decide_true, decide_false, decide_not, Bool.not_true, Bool.not_false, Bool.not_eq_true, Bool.not_eq_false]
        refine ⟨_, _, rfl, apart_no (no4 nv_va nv_va v9 v10), rfl, rfl, a, dx, l1, l2, _, rfl, hnd, ok, sm, i_N, fun a2 dx2 m1 m2 nd2 => ⟨Lr.dk_off, _, rfl, fun K H F v h => Lr.dk_ref h, fun z => (by cases z), fun _ => ?_⟩⟩
        refine ⟨_, rfl, ?_⟩
        simp only [List.map_cons, List.map_nil, aSeq, aLc, iL, iT, iR1, iE, iZ, aSlT, aSlL, aNoP, aPt, wipeE, aIfS, aT, aB, aBO, aC, aSet, aRet, aTup, aLst, aO, dCons, dNil, aCB, aCBO, aOr, aAnd, aNot, aIf, aAndV, aOrV, aNotV, aSkip, aAsg, aAug, ex_vaint, tgN, aCall, gConsA, gNilA, gScA, gTownA, aPar2, aPar3, aV_eq, dI_i, dIC_i, dIx_t, dIx_l, dMin2_i, dMax2_i, dSumT_2, dLen_l, dLen_t, dEq_i, dNe_i, dEq_ni, dEq_in, dIs_i, dIs_n, dIsn_i, dIsn_n, dCat_l, dCatT_t, dListO_l, dListO_t, dTupleO_l, dTupleO_t, tgs2, tgs0, tgt, ite_t, ite_f, ex_l1i, ex_l1l, ex_l2l, ex_l1, ex_l2, ex_l3, ex_int, ex_bool, ex_some, ex_va, ex_ow, ex_sc, ex_list, ex_tuple, at0, at1, at2, at3, ln0, ln1, ln2, ln3, ln4, ln5, ln6, List.cons_append, List.nil_append, List.getElem?_cons_zero, List.getElem?_cons_succ, List.set_cons_zero, List.set_cons_succ, List.length_cons, List.length_nil, true_and, and_true, true_implies, forall_const, Bool.true_eq_false, Bool.false_eq_true, false_implies, decide_eq_true_eq, decide_eq_false_iff_not, Int.sub_self, Int.sub_zero, Int.reduceSub, Int.reduceAdd, Int.reduceNeg, Int.reduceEq, Int.reduceLT, Int.reduceLE, Int.reduceNe, if_true, if_false, reduceIte, decide_true, decide_false, decide_not, Bool.not_true, Bool.not_false, Bool.not_eq_true, Bool.not_eq_false]
        exact Lr.m_comings rfl nd2 ok (Lr.dNe_same (Lr.sh_co _) rfl ⟨false, rfl, fun z => (by cases z), fun _ => Lr.m_lights rfl nd2 ok ((Lr.W_lights_l hc hr ok.2.2).mpr (Lr.dNe_same (Lr.sh_lts _) rfl ⟨false, rfl, fun z => (by cases z), fun _ => hN _ ⟨b, a2, dx2, m1, m2, cs, un, _, _, _, _, (by omega), rfl, nd2, ok, sm, nv_va, nv_va, v9, v10, rfl⟩⟩))⟩)
  · obtain ⟨b, a, dx, l1, l2, cs, un, x7, x8, x9, x10, hlen, e1, hnd, ok, sm, v7, v8, v9, v10, rfl⟩ := h
    simp only [List.map_cons, List.map_nil, aSeq, aLc, iL, iT, iR1, iE, iZ, aSlT, aSlL, aNoP, aPt, wipeE, aIfS, aT, aB, aBO, aC, aSet, aRet, aTup, aLst, aO, dCons, dNil, aCB, aCBO, aOr, aAnd, aNot, aIf, aAndV, aOrV, aNotV, aSkip, aAsg, aAug, ex_vaint, tgN, aCall, gConsA, gNilA, gScA, gTownA, aPar2, aPar3, aV_eq, dI_i, dIC_i, dIx_t, dIx_l, dMin2_i, dMax2_i, dSumT_2, dLen_l, dLen_t, dEq_i, dNe_i, dEq_ni, dEq_in, dIs_i, dIs_n, dIsn_i, dIsn_n, dCat_l, dCatT_t, dListO_l, dListO_t, dTupleO_l, dTupleO_t, tgs2, tgs0, tgt, ite_t, ite_f, ex_l1i, ex_l1l, ex_l2l, ex_l1, ex_l2, ex_l3, ex_int, ex_bool, ex_some, ex_va, ex_ow, ex_sc, ex_list, ex_tuple, at0, at1, at2, at3, ln0, ln1, ln2, ln3, ln4, ln5, ln6, List.cons_append, List.nil_append, List.getElem?_cons_zero, List.getElem?_cons_succ, List.set_cons_zero, List.set_cons_succ, List.length_cons, List.length_nil, true_and, and_true, true_implies, forall_const, Bool.true_eq_false, Bool.false_eq_true, false_implies, decide_eq_true_eq, decide_eq_false_iff_not, Int.sub_self, Int.sub_zero, Int.reduceSub, Int.reduceAdd, Int.reduceNeg, Int.reduceEq, Int.reduceLT, Int.reduceLE, Int.reduceNe, if_true, if_false, reduceIte, decide_true, decide_false, decide_not, Bool.not_true, Bool.not_false, Bool.not_eq_true, Bool.not_eq_false]
    refine Lr.dNe_ru (s := .asked 1) ⟨_, rfl, fun z => ?_, fun z => ?_⟩
    · have ne : ¬ rule = .asked 1 := by simpa using z
      refine ⟨_, rfl, _, rfl, room, pause, rule, rfl, hc, hr, fun a1 d1 m1 m2 n1 => ⟨_, rfl, _, rfl, room, pause, .asked 1, rfl, hc, (by unfold Lr.Rule.ok; decide), fun a2 d2 k1 k2 n2 => ⟨_, _, Lr.dk_lend, Lr.dk_lend, Lr.dkZ_at, Lr.dkZ_at, .inl ⟨a1, d1, m1, m2, _, a2, d2, k1, k2, _, rfl, false, congrArg PyData.bool (by simp [Lr.Dk.same, ne]), true, rfl, fun _ => ?_, fun z => (by cases z)⟩⟩⟩⟩
      simp only [aEqN, Lr.aMkN, List.map_cons, List.map_nil, aSeq, aLc, iL, iT, iR1, iE, iZ, aSlT, aSlL, aNoP, aPt, wipeE, aIfS, aT, aB, aBO, aC, aSet, aRet, aTup, aLst, aO, dCons, dNil, aCB, aCBO, aOr, aAnd, aNot, aIf, aAndV, aOrV, aNotV, aSkip, aAsg, aAug, ex_vaint, tgN, aCall, gConsA, gNilA, gScA, gTownA, aPar2, aPar3, aV_eq, dI_i, dIC_i, dIx_t, dIx_l, dMin2_i, dMax2_i, dSumT_2, dLen_l, dLen_t, dEq_i, dNe_i, dEq_ni, dEq_in, dIs_i, dIs_n, dIsn_i, dIsn_n, dCat_l, dCatT_t, dListO_l, dListO_t, dTupleO_l, dTupleO_t, tgs2, tgs0, tgt, ite_t, ite_f, ex_l1i, ex_l1l, ex_l2l, ex_l1, ex_l2, ex_l3, ex_int, ex_bool, ex_some, ex_va, ex_ow, ex_sc, ex_list, ex_tuple, at0, at1, at2, at3, ln0, ln1, ln2, ln3, ln4, ln5, ln6, List.cons_append, List.nil_append, List.getElem?_cons_zero, List.getElem?_cons_succ, List.set_cons_zero, List.set_cons_succ, List.length_cons, List.length_nil, true_and, and_true, true_implies, forall_const, Bool.true_eq_false, Bool.false_eq_true, false_implies, decide_eq_true_eq, decide_eq_false_iff_not, Int.sub_self, Int.sub_zero, Int.reduceSub, Int.reduceAdd, Int.reduceNeg, Int.reduceEq, Int.reduceLT, Int.reduceLE, Int.reduceNe, if_true, if_false, reduceIte, decide_true, decide_false, decide_not, Bool.not_true, Bool.not_false, Bool.not_eq_true, Bool.not_eq_false]
      exact ⟨1, 0, rule, rfl, by unfold Lr.CrOk; decide, hr, fun a1 d1 m1 m2 n1 => ⟨1, 1, rule, rfl, by unfold Lr.CrOk; decide, hr, fun a2 d2 k1 k2 n2 => ⟨_, _, Lr.dk_lend, Lr.dk_lend, Lr.dkZ_at, Lr.dkZ_at, .inl ⟨a1, d1, m1, m2, _, a2, d2, k1, k2, _, rfl, false, congrArg PyData.bool (by simp [Lr.Dk.same]), q⟩⟩⟩⟩
    · have eq : rule = .asked 1 := by simpa using z
      have ne : ¬ rule = .asked 2 := by rw [eq]; intro h; cases h
      refine ⟨_, rfl, _, rfl, room, pause, rule, rfl, hc, hr, fun a1 d1 m1 m2 n1 => ⟨_, rfl, _, rfl, room, pause, .asked 2, rfl, hc, (by unfold Lr.Rule.ok; decide), fun a2 d2 k1 k2 n2 => ⟨_, _, Lr.dk_lend, Lr.dk_lend, Lr.dkZ_at, Lr.dkZ_at, .inl ⟨a1, d1, m1, m2, _, a2, d2, k1, k2, _, rfl, false, congrArg PyData.bool (by simp [Lr.Dk.same, ne]), true, rfl, fun _ => ?_, fun z => (by cases z)⟩⟩⟩⟩
      simp only [aEqN, Lr.aMkN, List.map_cons, List.map_nil, aSeq, aLc, iL, iT, iR1, iE, iZ, aSlT, aSlL, aNoP, aPt, wipeE, aIfS, aT, aB, aBO, aC, aSet, aRet, aTup, aLst, aO, dCons, dNil, aCB, aCBO, aOr, aAnd, aNot, aIf, aAndV, aOrV, aNotV, aSkip, aAsg, aAug, ex_vaint, tgN, aCall, gConsA, gNilA, gScA, gTownA, aPar2, aPar3, aV_eq, dI_i, dIC_i, dIx_t, dIx_l, dMin2_i, dMax2_i, dSumT_2, dLen_l, dLen_t, dEq_i, dNe_i, dEq_ni, dEq_in, dIs_i, dIs_n, dIsn_i, dIsn_n, dCat_l, dCatT_t, dListO_l, dListO_t, dTupleO_l, dTupleO_t, tgs2, tgs0, tgt, ite_t, ite_f, ex_l1i, ex_l1l, ex_l2l, ex_l1, ex_l2, ex_l3, ex_int, ex_bool, ex_some, ex_va, ex_ow, ex_sc, ex_list, ex_tuple, at0, at1, at2, at3, ln0, ln1, ln2, ln3, ln4, ln5, ln6, List.cons_append, List.nil_append, List.getElem?_cons_zero, List.getElem?_cons_succ, List.set_cons_zero, List.set_cons_succ, List.length_cons, List.length_nil, true_and, and_true, true_implies, forall_const, Bool.true_eq_false, Bool.false_eq_true, false_implies, decide_eq_true_eq, decide_eq_false_iff_not, Int.sub_self, Int.sub_zero, Int.reduceSub, Int.reduceAdd, Int.reduceNeg, Int.reduceEq, Int.reduceLT, Int.reduceLE, Int.reduceNe, if_true, if_false, reduceIte, decide_true, decide_false, decide_not, Bool.not_true, Bool.not_false, Bool.not_eq_true, Bool.not_eq_false]
      exact ⟨1, 0, rule, rfl, by unfold Lr.CrOk; decide, hr, fun a1 d1 m1 m2 n1 => ⟨1, 1, rule, rfl, by unfold Lr.CrOk; decide, hr, fun a2 d2 k1 k2 n2 => ⟨_, _, Lr.dk_lend, Lr.dk_lend, Lr.dkZ_at, Lr.dkZ_at, .inl ⟨a1, d1, m1, m2, _, a2, d2, k1, k2, _, rfl, false, congrArg PyData.bool (by simp [Lr.Dk.same]), q⟩⟩⟩⟩
theorem all_mk {l : PySem.W.OpenLaw} {w : World} {K : PySem.W.Frag} {h : Heap} {mg : Str → Option Value} {fa f0 f1 f2 f3 f4 f5 f6 f7 f8 f9 f10 f11 f12 f13 f14 f15 f16 f17 f18 f19 f20 f21 f22 f23 f24 f25 f26 f27 f28 f29 d0 : Addr} (X : K.In h) (G : h.Ns mainGlobals mg) (hfa : mg "law" = some (.ref fa)) {od0 an0 od1 an1 od2 an2 od3 an3 od4 an4 od5 an5 od6 an6 od7 an7 od8 an8 od9 an9 od10 an10 od11 an11 od12 an12 od13 an13 od14 an14 od15 an15 od16 an16 od17 an17 od18 an18 od19 an19 od20 an20 od21 an21 od22 an22 od23 an23 od24 an24 od25 an25 od26 an26 od27 an27 od28 an28 od29 an29 : Option Addr} {sl0 sl1 sl2 sl3 sl4 sl5 sl6 sl7 sl8 sl9 sl10 sl11 sl12 sl13 sl14 sl15 sl16 sl17 sl18 sl19 sl20 sl21 sl22 sl23 sl24 sl25 sl26 sl27 sl28 sl29 : Array (Option Value)} {oc0 kV0 dc0 pm0 cd0 ct0 oc1 kV1 dc1 pm1 cd1 ct1 oc2 kV2 dc2 pm2 cd2 ct2 oc3 kV3 dc3 pm3 cd3 ct3 oc4 kV4 dc4 pm4 cd4 ct4 oc5 kV5 dc5 pm5 cd5 ct5 oc6 kV6 dc6 pm6 cd6 ct6 oc7 kV7 dc7 pm7 cd7 ct7 oc8 kV8 dc8 pm8 cd8 ct8 oc9 kV9 dc9 pm9 cd9 ct9 oc10 kV10 dc10 pm10 cd10 ct10 oc11 kV11 dc11 pm11 cd11 ct11 oc12 kV12 dc12 pm12 cd12 ct12 oc13 kV13 dc13 pm13 cd13 ct13 oc14 kV14 dc14 pm14 cd14 ct14 oc15 kV15 dc15 pm15 cd15 ct15 oc16 kV16 dc16 pm16 cd16 ct16 oc17 kV17 dc17 pm17 cd17 ct17 oc18 kV18 dc18 pm18 cd18 ct18 oc19 kV19 dc19 pm19 cd19 ct19 oc20 kV20 dc20 pm20 cd20 ct20 oc21 kV21 dc21 pm21 cd21 ct21 oc22 kV22 dc22 pm22 cd22 ct22 oc23 kV23 dc23 pm23 cd23 ct23 oc24 kV24 dc24 pm24 cd24 ct24 oc25 kV25 dc25 pm25 cd25 ct25 oc26 kV26 dc26 pm26 cd26 ct26 oc27 kV27 dc27 pm27 cd27 ct27 oc28 kV28 dc28 pm28 cd28 ct28 oc29 kV29 dc29 pm29 cd29 ct29 : Value}
    {tk0 : Tok}
    {C0 : Addr} (aC : PySem.W.nsIn K mainGlobals "Desk" = some (some (.ref C0))) (dg1 : PySem.W.plainGet K C0 Str.empty = true) (dg2 : PySem.W.hasDictIn K C0 = true) (dg3 : PySem.W.plainOver K C0 = true) (dg4 : PySem.W.findIn K (.ref C0) "__setattr__" = some (some (.builtin "object.__setattr__")))
    (df0 : PySem.W.findIn K (.ref C0) "_crossing" = some none) (df1 : PySem.W.findIn K (.ref C0) "_rule" = some none) (df2 : PySem.W.findIn K (.ref C0) "_comings" = some none) (df3 : PySem.W.findIn K (.ref C0) "_undone" = some none) (dm1 : PySem.W.makesIn K C0 = true) (dm2 : PySem.W.keepIn K (.ref C0) = true)
    {C_LightError C_NothingToUndo : Addr}
    (gE_LightError : PySem.W.nsIn K mainGlobals "LightError" = some (some (.ref C_LightError)))
    (hd_LightError : PySem.W.hasDictIn K C_LightError = true)
    (ty_LightError : PySem.W.typeIn K (.ref C_LightError) = some (.type "type"))
    (gE_NothingToUndo : PySem.W.nsIn K mainGlobals "NothingToUndo" = some (some (.ref C_NothingToUndo)))
    (hd_NothingToUndo : PySem.W.hasDictIn K C_NothingToUndo = true)
    (ty_NothingToUndo : PySem.W.typeIn K (.ref C_NothingToUndo) = some (.type "type"))
    (sb_LightError : PySem.W.subIn K (.ref C_LightError) (.type "BaseException") = some true)
    (hnE : PySem.W.specialIn K (.builtin "object.__class__") "__get__" = some (some (.builtin "getset_descriptor.__get__")))
    (htE : PySem.W.takesIn K (.builtin "object.__class__") = some true)
    (xp_NothingToUndo : PySem.W.excIn K C_NothingToUndo [.type "ValueError", .type "Exception", .type "BaseException", .type "object"] "ValueError.__new__" = true)
    (kp_NothingToUndo : PySem.W.keepIn K (.ref C_NothingToUndo) = true)
    (sb_NothingToUndo : PySem.W.subIn K (.ref C_NothingToUndo) (.type "BaseException") = some true)
    (sv_NothingToUndo : PySem.W.subIn K (.ref C_NothingToUndo) (.type "ValueError") = some true)
    (ga_NothingToUndo : PySem.W.findIn K (.ref C_NothingToUndo) "__getattribute__" = some (some (.builtin "BaseException.__getattribute__")))
    (gt_NothingToUndo : PySem.W.findIn K (.ref C_NothingToUndo) "__getattr__" = some none)
    (ca_NothingToUndo : PySem.W.findIn K (.ref C_NothingToUndo) "__class__" = some (some (.builtin "object.__class__")))
    (mo_NothingToUndo : PySem.W.mroIn K C_NothingToUndo (.type "object") = some true)
    (su_NothingToUndo_LightError : PySem.W.subIn K (.ref C_NothingToUndo) (.ref C_LightError) = some true)
    (su_NothingToUndo_NothingToUndo : PySem.W.subIn K (.ref C_NothingToUndo) (.ref C_NothingToUndo) = some true)
    (eq_ne : PySem.W.findIn K (.ref C0) "__ne__" = some (some (.builtin "object.__ne__")))
    (eq_mr : PySem.W.mroIn K C0 (.type "object") = some true)
    (eq_cl : PySem.W.findIn K (.ref C0) "__class__" = some (some (.builtin "object.__class__")))
    (eq_hd : PySem.W.hasDictIn K C0 = true)
    (eq_ty : PySem.W.typeIn K (.ref C0) = some (.type "type"))
    (a0 : PySem.W.nsIn K mainGlobals "is_number" = some (some (.ref f0))) (l0 : K.lookup f0 = some ⟨oc0, od0, .func (PySem.W.fnOf "is_number" "is_number" (defArgs s_is_number) (defBody s_is_number) (defScope s_is_number) .none kV0 dc0 pm0 an0 cd0 ct0), sl0⟩) (c0 : PySem.W.codeIn K cd0 "is_number" = true) (k0 : PySem.W.keepIn K (.ref f0) = true)
    (a1 : PySem.W.nsIn K mainGlobals "is_crossing" = some (some (.ref f1))) (l1 : K.lookup f1 = some ⟨oc1, od1, .func (PySem.W.fnOf "is_crossing" "is_crossing" (defArgs s_is_crossing) (defBody s_is_crossing) (defScope s_is_crossing) .none kV1 dc1 pm1 an1 cd1 ct1), sl1⟩) (c1 : PySem.W.codeIn K cd1 "is_crossing" = true) (k1 : PySem.W.keepIn K (.ref f1) = true)
    (a2 : PySem.W.nsIn K mainGlobals "check_crossing" = some (some (.ref f2))) (l2 : K.lookup f2 = some ⟨oc2, od2, .func (PySem.W.fnOf "check_crossing" "check_crossing" (defArgs s_check_crossing) (defBody s_check_crossing) (defScope s_check_crossing) .none kV2 dc2 pm2 an2 cd2 ct2), sl2⟩) (c2 : PySem.W.codeIn K cd2 "check_crossing" = true) (k2 : PySem.W.keepIn K (.ref f2) = true)
    (a3 : PySem.W.nsIn K mainGlobals "is_rule" = some (some (.ref f3))) (l3 : K.lookup f3 = some ⟨oc3, od3, .func (PySem.W.fnOf "is_rule" "is_rule" (defArgs s_is_rule) (defBody s_is_rule) (defScope s_is_rule) .none kV3 dc3 pm3 an3 cd3 ct3), sl3⟩) (c3 : PySem.W.codeIn K cd3 "is_rule" = true) (k3 : PySem.W.keepIn K (.ref f3) = true)
    (a4 : PySem.W.nsIn K mainGlobals "check_rule" = some (some (.ref f4))) (l4 : K.lookup f4 = some ⟨oc4, od4, .func (PySem.W.fnOf "check_rule" "check_rule" (defArgs s_check_rule) (defBody s_check_rule) (defScope s_check_rule) .none kV4 dc4 pm4 an4 cd4 ct4), sl4⟩) (c4 : PySem.W.codeIn K cd4 "check_rule" = true) (k4 : PySem.W.keepIn K (.ref f4) = true)
    (a5 : PySem.W.findIn K (.ref C0) "__init__" = some (some (.ref f5))) (l5 : K.lookup f5 = some ⟨oc5, od5, .func (PySem.W.fnOf "__init__" "Desk.__init__" (defArgs s_Desk___init__) (defBody s_Desk___init__) (defScope s_Desk___init__) .none kV5 dc5 pm5 an5 cd5 ct5), sl5⟩) (c5 : PySem.W.codeIn K cd5 "Desk.__init__" = true) (k5 : PySem.W.keepIn K (.ref f5) = true) (n5 : PySem.W.isFn K (.ref f5) = true)
    (a6 : PySem.W.findIn K (.ref C0) "__eq__" = some (some (.ref f6))) (l6 : K.lookup f6 = some ⟨oc6, od6, .func (PySem.W.fnOf "__eq__" "Desk.__eq__" (defArgs s_Desk___eq__) (defBody s_Desk___eq__) (defScope s_Desk___eq__) .none kV6 dc6 pm6 an6 cd6 ct6), sl6⟩) (c6 : PySem.W.codeIn K cd6 "Desk.__eq__" = true) (k6 : PySem.W.keepIn K (.ref f6) = true) (n6 : PySem.W.isFn K (.ref f6) = true)
    (a7 : PySem.W.findIn K (.ref C0) "comings" = some (some (.ref f7))) (l7 : K.lookup f7 = some ⟨oc7, od7, .func (PySem.W.fnOf "comings" "Desk.comings" (defArgs s_Desk_comings) (defBody s_Desk_comings) (defScope s_Desk_comings) .none kV7 dc7 pm7 an7 cd7 ct7), sl7⟩) (c7 : PySem.W.codeIn K cd7 "Desk.comings" = true) (k7 : PySem.W.keepIn K (.ref f7) = true) (n7 : PySem.W.isFn K (.ref f7) = true)
    (a8 : PySem.W.nsIn K mainGlobals "are_comings" = some (some (.ref f8))) (l8 : K.lookup f8 = some ⟨oc8, od8, .func (PySem.W.fnOf "are_comings" "are_comings" (defArgs s_are_comings) (defBody s_are_comings) (defScope s_are_comings) .none kV8 dc8 pm8 an8 cd8 ct8), sl8⟩) (c8 : PySem.W.codeIn K cd8 "are_comings" = true) (k8 : PySem.W.keepIn K (.ref f8) = true)
    (a9 : PySem.W.nsIn K mainGlobals "check_comings" = some (some (.ref f9))) (l9 : K.lookup f9 = some ⟨oc9, od9, .func (PySem.W.fnOf "check_comings" "check_comings" (defArgs s_check_comings) (defBody s_check_comings) (defScope s_check_comings) .none kV9 dc9 pm9 an9 cd9 ct9), sl9⟩) (c9 : PySem.W.codeIn K cd9 "check_comings" = true) (k9 : PySem.W.keepIn K (.ref f9) = true)
    (a10 : PySem.W.nsIn K mainGlobals "first_state" = some (some (.ref f10))) (l10 : K.lookup f10 = some ⟨oc10, od10, .func (PySem.W.fnOf "first_state" "first_state" (defArgs s_first_state) (defBody s_first_state) (defScope s_first_state) .none kV10 dc10 pm10 an10 cd10 ct10), sl10⟩) (c10 : PySem.W.codeIn K cd10 "first_state" = true) (k10 : PySem.W.keepIn K (.ref f10) = true)
    (a11 : PySem.W.nsIn K mainGlobals "_join" = some (some (.ref f11))) (l11 : K.lookup f11 = some ⟨oc11, od11, .func (PySem.W.fnOf "_join" "_join" (defArgs s__join) (defBody s__join) (defScope s__join) .none kV11 dc11 pm11 an11 cd11 ct11), sl11⟩) (c11 : PySem.W.codeIn K cd11 "_join" = true) (k11 : PySem.W.keepIn K (.ref f11) = true)
    (a12 : PySem.W.nsIn K mainGlobals "_leave" = some (some (.ref f12))) (l12 : K.lookup f12 = some ⟨oc12, od12, .func (PySem.W.fnOf "_leave" "_leave" (defArgs s__leave) (defBody s__leave) (defScope s__leave) .none kV12 dc12 pm12 an12 cd12 ct12), sl12⟩) (c12 : PySem.W.codeIn K cd12 "_leave" = true) (k12 : PySem.W.keepIn K (.ref f12) = true)
    (a13 : PySem.W.nsIn K mainGlobals "_changes" = some (some (.ref f13))) (l13 : K.lookup f13 = some ⟨oc13, od13, .func (PySem.W.fnOf "_changes" "_changes" (defArgs s__changes) (defBody s__changes) (defScope s__changes) .none kV13 dc13 pm13 an13 cd13 ct13), sl13⟩) (c13 : PySem.W.codeIn K cd13 "_changes" = true) (k13 : PySem.W.keepIn K (.ref f13) = true)
    (a14 : PySem.W.nsIn K mainGlobals "play_tick" = some (some (.ref f14))) (l14 : K.lookup f14 = some ⟨oc14, od14, .func (PySem.W.fnOf "play_tick" "play_tick" (defArgs s_play_tick) (defBody s_play_tick) (defScope s_play_tick) .none kV14 dc14 pm14 an14 cd14 ct14), sl14⟩) (c14 : PySem.W.codeIn K cd14 "play_tick" = true) (k14 : PySem.W.keepIn K (.ref f14) = true)
    (a15 : PySem.W.nsIn K mainGlobals "_ticks_along" = some (some (.ref f15))) (l15 : K.lookup f15 = some ⟨oc15, od15, .func (PySem.W.fnOf "_ticks_along" "_ticks_along" (defArgs s__ticks_along) (defBody s__ticks_along) (defScope s__ticks_along) .none kV15 dc15 pm15 an15 cd15 ct15), sl15⟩) (c15 : PySem.W.codeIn K cd15 "_ticks_along" = true) (k15 : PySem.W.keepIn K (.ref f15) = true)
    (a16 : PySem.W.nsIn K mainGlobals "lights_along" = some (some (.ref f16))) (l16 : K.lookup f16 = some ⟨oc16, od16, .func (PySem.W.fnOf "lights_along" "lights_along" (defArgs s_lights_along) (defBody s_lights_along) (defScope s_lights_along) .none kV16 dc16 pm16 an16 cd16 ct16), sl16⟩) (c16 : PySem.W.codeIn K cd16 "lights_along" = true) (k16 : PySem.W.keepIn K (.ref f16) = true)
    (a17 : PySem.W.findIn K (.ref C0) "lights" = some (some (.ref f17))) (l17 : K.lookup f17 = some ⟨oc17, od17, .func (PySem.W.fnOf "lights" "Desk.lights" (defArgs s_Desk_lights) (defBody s_Desk_lights) (defScope s_Desk_lights) .none kV17 dc17 pm17 an17 cd17 ct17), sl17⟩) (c17 : PySem.W.codeIn K cd17 "Desk.lights" = true) (k17 : PySem.W.keepIn K (.ref f17) = true) (n17 : PySem.W.isFn K (.ref f17) = true)
    (a18 : PySem.W.nsIn K mainGlobals "check_coming" = some (some (.ref f18))) (l18 : K.lookup f18 = some ⟨oc18, od18, .func (PySem.W.fnOf "check_coming" "check_coming" (defArgs s_check_coming) (defBody s_check_coming) (defScope s_check_coming) .none kV18 dc18 pm18 an18 cd18 ct18), sl18⟩) (c18 : PySem.W.codeIn K cd18 "check_coming" = true) (k18 : PySem.W.keepIn K (.ref f18) = true)
    (a19 : PySem.W.findIn K (.ref C0) "tick" = some (some (.ref f19))) (l19 : K.lookup f19 = some ⟨oc19, od19, .func (PySem.W.fnOf "tick" "Desk.tick" (defArgs s_Desk_tick) (defBody s_Desk_tick) (defScope s_Desk_tick) .none kV19 dc19 pm19 an19 cd19 ct19), sl19⟩) (c19 : PySem.W.codeIn K cd19 "Desk.tick" = true) (k19 : PySem.W.keepIn K (.ref f19) = true) (n19 : PySem.W.isFn K (.ref f19) = true)
    (a20 : PySem.W.findIn K (.ref C0) "undo" = some (some (.ref f20))) (l20 : K.lookup f20 = some ⟨oc20, od20, .func (PySem.W.fnOf "undo" "Desk.undo" (defArgs s_Desk_undo) (defBody s_Desk_undo) (defScope s_Desk_undo) .none kV20 dc20 pm20 an20 cd20 ct20), sl20⟩) (c20 : PySem.W.codeIn K cd20 "Desk.undo" = true) (k20 : PySem.W.keepIn K (.ref f20) = true) (n20 : PySem.W.isFn K (.ref f20) = true)
    (a21 : PySem.W.findIn K (.ref C0) "redo" = some (some (.ref f21))) (l21 : K.lookup f21 = some ⟨oc21, od21, .func (PySem.W.fnOf "redo" "Desk.redo" (defArgs s_Desk_redo) (defBody s_Desk_redo) (defScope s_Desk_redo) .none kV21 dc21 pm21 an21 cd21 ct21), sl21⟩) (c21 : PySem.W.codeIn K cd21 "Desk.redo" = true) (k21 : PySem.W.keepIn K (.ref f21) = true) (n21 : PySem.W.isFn K (.ref f21) = true)
    (a22 : PySem.W.findIn K (.ref C0) "copy" = some (some (.ref f22))) (l22 : K.lookup f22 = some ⟨oc22, od22, .func (PySem.W.fnOf "copy" "Desk.copy" (defArgs s_Desk_copy) (defBody s_Desk_copy) (defScope s_Desk_copy) .none kV22 dc22 pm22 an22 cd22 ct22), sl22⟩) (c22 : PySem.W.codeIn K cd22 "Desk.copy" = true) (k22 : PySem.W.keepIn K (.ref f22) = true) (n22 : PySem.W.isFn K (.ref f22) = true)
    (a23 : PySem.W.nsIn K mainGlobals "_law_draw" = some (some (.ref f23))) (l23 : K.lookup f23 = some ⟨oc23, od23, .func (PySem.W.fnOf "_law_draw" "_law_draw" (defArgs s__law_draw) (defBody s__law_draw) (defScope s__law_draw) .none kV23 dc23 pm23 an23 cd23 ct23), sl23⟩) (c23 : PySem.W.codeIn K cd23 "_law_draw" = true) (k23 : PySem.W.keepIn K (.ref f23) = true)
    (a24 : PySem.W.nsIn K mainGlobals "_law_crossing" = some (some (.ref f24))) (l24 : K.lookup f24 = some ⟨oc24, od24, .func (PySem.W.fnOf "_law_crossing" "_law_crossing" (defArgs s__law_crossing) (defBody s__law_crossing) (defScope s__law_crossing) .none kV24 dc24 pm24 an24 cd24 ct24), sl24⟩) (c24 : PySem.W.codeIn K cd24 "_law_crossing" = true) (k24 : PySem.W.keepIn K (.ref f24) = true)
    (a25 : PySem.W.nsIn K mainGlobals "_law_pick" = some (some (.ref f25))) (l25 : K.lookup f25 = some ⟨oc25, od25, .func (PySem.W.fnOf "_law_pick" "_law_pick" (defArgs s__law_pick) (defBody s__law_pick) (defScope s__law_pick) .none kV25 dc25 pm25 an25 cd25 ct25), sl25⟩) (c25 : PySem.W.codeIn K cd25 "_law_pick" = true) (k25 : PySem.W.keepIn K (.ref f25) = true)
    (a26 : PySem.W.nsIn K mainGlobals "_law_rule" = some (some (.ref f26))) (l26 : K.lookup f26 = some ⟨oc26, od26, .func (PySem.W.fnOf "_law_rule" "_law_rule" (defArgs s__law_rule) (defBody s__law_rule) (defScope s__law_rule) .none kV26 dc26 pm26 an26 cd26 ct26), sl26⟩) (c26 : PySem.W.codeIn K cd26 "_law_rule" = true) (k26 : PySem.W.keepIn K (.ref f26) = true)
    (a27 : PySem.W.nsIn K mainGlobals "_law_back" = some (some (.ref f27))) (l27 : K.lookup f27 = some ⟨oc27, od27, .func (PySem.W.fnOf "_law_back" "_law_back" (defArgs s__law_back) (defBody s__law_back) (defScope s__law_back) .none kV27 dc27 pm27 an27 cd27 ct27), sl27⟩) (c27 : PySem.W.codeIn K cd27 "_law_back" = true) (k27 : PySem.W.keepIn K (.ref f27) = true)
    (a28 : PySem.W.nsIn K mainGlobals "_law_copied" = some (some (.ref f28))) (l28 : K.lookup f28 = some ⟨oc28, od28, .func (PySem.W.fnOf "_law_copied" "_law_copied" (defArgs s__law_copied) (defBody s__law_copied) (defScope s__law_copied) .none kV28 dc28 pm28 an28 cd28 ct28), sl28⟩) (c28 : PySem.W.codeIn K cd28 "_law_copied" = true) (k28 : PySem.W.keepIn K (.ref f28) = true)
    (a29 : PySem.W.nsIn K mainGlobals "law" = some (some (.ref f29))) (l29 : K.lookup f29 = some ⟨oc29, od29, .func (PySem.W.fnOf "law" "law" (defArgs s_law) (defBody s_law) (defScope s_law) .none kV29 dc29 pm29 an29 cd29 ct29), sl29⟩) (c29 : PySem.W.codeIn K cd29 "law" = true) (k29 : PySem.W.keepIn K (.ref f29) = true)
    (z_isinstance : PySem.W.nsIn K mainGlobals "isinstance" = some none)
    (z_bool : PySem.W.nsIn K mainGlobals "bool" = some none)
    (z_int : PySem.W.nsIn K mainGlobals "int" = some none)
    (z_len : PySem.W.nsIn K mainGlobals "len" = some none)
    (z_tuple : PySem.W.nsIn K mainGlobals "tuple" = some none)
    (z_str : PySem.W.nsIn K mainGlobals "str" = some none)
    (z_all : PySem.W.nsIn K mainGlobals "all" = some none)
    (z_list : PySem.W.nsIn K mainGlobals "list" = some none)
    (z_min : PySem.W.nsIn K mainGlobals "min" = some none)
    (z_sum : PySem.W.nsIn K mainGlobals "sum" = some none)
    (z_max : PySem.W.nsIn K mainGlobals "max" = some none)
    (z_range : PySem.W.nsIn K mainGlobals "range" = some none)
    (cst0 : PySem.W.nsIn K mainGlobals "MOST_TICKS" = some (some (.int 40 tk0)))
    {es0 : Array DictEntry} {en0 : Nat} {u0_0 u0_1 u0_2 u0_3 u0_4 u0_5 : Tok} (ta0 : PySem.W.nsIn K mainGlobals "_NUMBERS_BEHIND" = some (some (.ref d0))) (tl0 : K.lookup d0 = some ⟨.type "dict", none, .dict es0 en0, #[]⟩) (tk0x : PySem.W.KeysLit w.params es0.toList) (ts0 : (d0 == sysModules) = false) (tv0_0 : PySem.W.nsIn K d0 "asked" = some (some (.int 1 u0_0))) (tv0_1 : PySem.W.nsIn K d0 "clock" = some (some (.int 2 u0_1))) (tv0_2 : PySem.W.nsIn K d0 "due" = some (some (.int 1 u0_2))) (tv0_3 : PySem.W.nsIn K d0 "empty" = some (some (.int 1 u0_3))) (tv0_4 : PySem.W.nsIn K d0 "gap" = some (some (.int 2 u0_4))) (tv0_5 : PySem.W.nsIn K d0 "longer" = some (some (.int 1 u0_5)))
    : ∃ fd : FuncData, (∀ (s : Shared) (v : Value), BindsTo s fd ⟨[v], []⟩ [("_law_script", v)]) ∧ ∀ base : Heap, K.In base → base.Ns mainGlobals mg → FnOk l.prog w K mg base CX0 10 fa fd ["_law_script"] (spA ⟨K, l.prog, w⟩ 1 WLaw) := by
  have e := hfa.symm.trans (PySem.W.mg_of X G a29)
  cases e
  have F0 := fun_mk (st := s_is_number) l0 c0 k0
  have b0 := F0.binds (ps := ["candidate", "least", "most"]) fun _ _ _ _ _ _ us hl => match us, hl with | [_, _, _], _ => rfl
  have F1 := fun_mk (st := s_is_crossing) l1 c1 k1
  have b1 := F1.binds (ps := ["candidate"]) fun _ _ _ _ _ _ us hl => match us, hl with | [_], _ => rfl
  have F2 := fun_mk (st := s_check_crossing) l2 c2 k2
  have b2 := F2.binds (ps := ["crossing"]) fun _ _ _ _ _ _ us hl => match us, hl with | [_], _ => rfl
  have F3 := fun_mk (st := s_is_rule) l3 c3 k3
  have b3 := F3.binds (ps := ["candidate"]) fun _ _ _ _ _ _ us hl => match us, hl with | [_], _ => rfl
  have F4 := fun_mk (st := s_check_rule) l4 c4 k4
  have b4 := F4.binds (ps := ["rule"]) fun _ _ _ _ _ _ us hl => match us, hl with | [_], _ => rfl
  have F5 := fun_mk (st := s_Desk___init__) l5 c5 k5
  have b5 := F5.binds (ps := ["self", "crossing", "rule"]) fun _ _ _ _ _ _ us hl => match us, hl with | [_, _, _], _ => rfl
  have F6 := fun_mk (st := s_Desk___eq__) l6 c6 k6
  have b6 := F6.binds (ps := ["self", "other"]) fun _ _ _ _ _ _ us hl => match us, hl with | [_, _], _ => rfl
  have F7 := fun_mk (st := s_Desk_comings) l7 c7 k7
  have b7 := F7.binds (ps := ["self"]) fun _ _ _ _ _ _ us hl => match us, hl with | [_], _ => rfl
  have F8 := fun_mk (st := s_are_comings) l8 c8 k8
  have b8 := F8.binds (ps := ["candidate"]) fun _ _ _ _ _ _ us hl => match us, hl with | [_], _ => rfl
  have F9 := fun_mk (st := s_check_comings) l9 c9 k9
  have b9 := F9.binds (ps := ["comings"]) fun _ _ _ _ _ _ us hl => match us, hl with | [_], _ => rfl
  have F10 := fun_mk (st := s_first_state) l10 c10 k10
  have b10 := F10.binds (ps := []) fun _ _ _ _ _ _ us hl => match us, hl with | [], _ => rfl
  have F11 := fun_mk (st := s__join) l11 c11 k11
  have b11 := F11.binds (ps := ["room", "lines", "coming"]) fun _ _ _ _ _ _ us hl => match us, hl with | [_, _, _], _ => rfl
  have F12 := fun_mk (st := s__leave) l12 c12 k12
  have b12 := F12.binds (ps := ["lines", "light"]) fun _ _ _ _ _ _ us hl => match us, hl with | [_, _], _ => rfl
  have F13 := fun_mk (st := s__changes) l13 c13 k13
  have b13 := F13.binds (ps := ["rule", "road", "age", "rest", "wait", "lines"]) fun _ _ _ _ _ _ us hl => match us, hl with | [_, _, _, _, _, _], _ => rfl
  have F14 := fun_mk (st := s_play_tick) l14 c14 k14
  have b14 := F14.binds (ps := ["crossing", "rule", "state", "coming"]) fun _ _ _ _ _ _ us hl => match us, hl with | [_, _, _, _], _ => rfl
  have F15 := fun_mk (st := s__ticks_along) l15 c15 k15
  have b15 := F15.binds (ps := ["crossing", "rule", "comings"]) fun _ _ _ _ _ _ us hl => match us, hl with | [_, _, _], _ => rfl
  have F16 := fun_mk (st := s_lights_along) l16 c16 k16
  have b16 := F16.binds (ps := ["crossing", "rule", "comings"]) fun _ _ _ _ _ _ us hl => match us, hl with | [_, _, _], _ => rfl
  have F17 := fun_mk (st := s_Desk_lights) l17 c17 k17
  have b17 := F17.binds (ps := ["self"]) fun _ _ _ _ _ _ us hl => match us, hl with | [_], _ => rfl
  have F18 := fun_mk (st := s_check_coming) l18 c18 k18
  have b18 := F18.binds (ps := ["coming"]) fun _ _ _ _ _ _ us hl => match us, hl with | [_], _ => rfl
  have F19 := fun_mk (st := s_Desk_tick) l19 c19 k19
  have b19 := F19.binds (ps := ["self", "coming"]) fun _ _ _ _ _ _ us hl => match us, hl with | [_, _], _ => rfl
  have F20 := fun_mk (st := s_Desk_undo) l20 c20 k20
  have b20 := F20.binds (ps := ["self"]) fun _ _ _ _ _ _ us hl => match us, hl with | [_], _ => rfl
  have F21 := fun_mk (st := s_Desk_redo) l21 c21 k21
  have b21 := F21.binds (ps := ["self"]) fun _ _ _ _ _ _ us hl => match us, hl with | [_], _ => rfl
  have F22 := fun_mk (st := s_Desk_copy) l22 c22 k22
  have b22 := F22.binds (ps := ["self"]) fun _ _ _ _ _ _ us hl => match us, hl with | [_], _ => rfl
  have F23 := fun_mk (st := s__law_draw) l23 c23 k23
  have b23 := F23.binds (ps := ["_law_script", "_law_town", "_law_many"]) fun _ _ _ _ _ _ us hl => match us, hl with | [_, _, _], _ => rfl
  have F24 := fun_mk (st := s__law_crossing) l24 c24 k24
  have b24 := F24.binds (ps := ["_law_script", "_law_town"]) fun _ _ _ _ _ _ us hl => match us, hl with | [_, _], _ => rfl
  have F25 := fun_mk (st := s__law_pick) l25 c25 k25
  have b25 := F25.binds (ps := ["_law_script", "_law_town", "_law_some"]) fun _ _ _ _ _ _ us hl => match us, hl with | [_, _, _], _ => rfl
  have F26 := fun_mk (st := s__law_rule) l26 c26 k26
  have b26 := F26.binds (ps := ["_law_script", "_law_town"]) fun _ _ _ _ _ _ us hl => match us, hl with | [_, _], _ => rfl
  have F27 := fun_mk (st := s__law_back) l27 c27 k27
  have b27 := F27.binds (ps := ["_law_desk", "_law_is_undo"]) fun _ _ _ _ _ _ us hl => match us, hl with | [_, _], _ => rfl
  have F28 := fun_mk (st := s__law_copied) l28 c28 k28
  have b28 := F28.binds (ps := ["_law_desk", "_law_done"]) fun _ _ _ _ _ _ us hl => match us, hl with | [_, _], _ => rfl
  have F29 := fun_mk (st := s_law) l29 c29 k29
  have T__NUMBERS_BEHIND : Tbl K w mg "_NUMBERS_BEHIND" Lr.nbT := ⟨d0, es0, en0, ⟨tl0, tk0x, ts0⟩, PySem.W.mg_of X G ta0, fun p hp => by
    simp only [Lr.nbT, List.mem_cons, List.not_mem_nil, or_false] at hp
    rcases hp with rfl | rfl | rfl | rfl | rfl | rfl
    · exact ⟨_, tv0_0⟩
    · exact ⟨_, tv0_1⟩
    · exact ⟨_, tv0_2⟩
    · exact ⟨_, tv0_3⟩
    · exact ⟨_, tv0_4⟩
    · exact ⟨_, tv0_5⟩⟩
  refine ⟨PySem.W.fnOf "law" "law" (defArgs s_law) (defBody s_law) (defScope s_law) .none kV29 dc29 pm29 an29 cd29 ct29, fun s v => .of_eq rfl, fun base _ _ => ?_⟩
  have hC : Lr.DkCls K C0 := ⟨⟨dg1, dg2, dg3, dg4⟩, df0, df1, df2, df3⟩
  have E_NothingToUndo : ExcF K mg "NothingToUndo" C_NothingToUndo := ⟨xp_NothingToUndo, PySem.W.mg_of X G gE_NothingToUndo, kp_NothingToUndo, sb_NothingToUndo, ty_NothingToUndo⟩
  have i_NothingToUndo : Lr.OkP K C_LightError C_NothingToUndo C_NothingToUndo := ⟨⟨ga_NothingToUndo, gt_NothingToUndo, sb_NothingToUndo, hd_NothingToUndo, ca_NothingToUndo, hnE, htE, mo_NothingToUndo⟩, PySem.W.exm_ref sb_LightError hd_LightError ty_LightError su_NothingToUndo_LightError, Lr.kit_own (C := C_NothingToUndo) hd_NothingToUndo ty_NothingToUndo su_NothingToUndo_NothingToUndo (fun z => nomatch z)⟩
  have h_is_number := t_is_number (P := l.prog) (w := w) (base := base) (k := 0)  (PySem.W.mg_none_of X G z_isinstance) (PySem.W.mg_none_of X G z_bool) (PySem.W.mg_none_of X G z_int) F0 (PySem.W.mg_of X G a0) b0
  have h_is_crossing := t_is_crossing (P := l.prog) (w := w) (base := base) (k := 1) (h_is_number.mono (by decide)) (PySem.W.mg_none_of X G z_len) (PySem.W.mg_none_of X G z_isinstance) (PySem.W.mg_none_of X G z_tuple) F1 (PySem.W.mg_of X G a1) b1
  have h_check_crossing := t_check_crossing (P := l.prog) (w := w) (base := base) (k := 2) (h_is_crossing.mono (by decide)) F2 (PySem.W.mg_of X G a2) b2
  have h_is_rule := t_is_rule (P := l.prog) (w := w) (base := base) (k := 1) (h_is_number.mono (by decide)) (PySem.W.mg_none_of X G z_len) (PySem.W.mg_none_of X G z_isinstance) (PySem.W.mg_none_of X G z_tuple) (PySem.W.mg_none_of X G z_str) (PySem.W.mg_none_of X G z_all) T__NUMBERS_BEHIND F3 (PySem.W.mg_of X G a3) b3
  have h_check_rule := t_check_rule (P := l.prog) (w := w) (base := base) (k := 2) (h_is_rule.mono (by decide)) F4 (PySem.W.mg_of X G a4) b4
  have c_Desk : ClN l.prog w K mg base 4 "Desk" C0 3 Lr.WM_init := ⟨⟨_, _, _, t_Desk___init__ (P := l.prog) (w := w) (mg := mg) (base := base) (k := 3) (h_check_crossing.mono (by decide)) (h_check_rule.mono (by decide)) F5, ⟨dm1, a5, n5, dm2⟩, PySem.W.mg_of X G aC, b5⟩⟩
  have hD : Lr.IsD K C0 := ⟨hC.cls, eq_mr, eq_cl, hnE, htE, Lr.ci_of eq_hd eq_ty⟩
  have c_eq : ClEq l.prog w K mg base 2 C0 (Lr.W_eq C0) := ⟨⟨_, _, _, t_Desk___eq__ (P := l.prog) (w := w) (mg := mg) (base := base) (k := 1) hD (PySem.W.mg_of X G aC) (PySem.W.mg_none_of X G z_isinstance) F6, ⟨hC.cls, a6, n6, eq_ne, eq_mr, eq_cl, hnE, htE, Lr.ci_of eq_hd eq_ty⟩, b6⟩⟩
  have m_comings : ClR l.prog w K mg base 2 C0 "comings" 1 Lr.WD_comings := ⟨⟨_, _, _, t_Desk_comings (P := l.prog) (w := w) (mg := mg) (base := base) (k := 1)  (PySem.W.mg_none_of X G z_list) F7, ⟨a7, n7, k7⟩, b7⟩⟩
  have h_are_comings := t_are_comings (P := l.prog) (w := w) (base := base) (k := 1) (h_is_number.mono (by decide)) (PySem.W.mg_none_of X G z_len) (PySem.W.mg_none_of X G z_isinstance) (PySem.W.mg_none_of X G z_list) (PySem.W.mg_none_of X G z_all) ⟨_, PySem.W.mg_of X G cst0⟩ F8 (PySem.W.mg_of X G a8) b8
  have h_check_comings := t_check_comings (P := l.prog) (w := w) (base := base) (k := 2) (h_are_comings.mono (by decide)) F9 (PySem.W.mg_of X G a9) b9
  have h_first_state := t_first_state (P := l.prog) (w := w) (base := base) (k := 0)  F10 (PySem.W.mg_of X G a10) b10
  have h__join := t__join (P := l.prog) (w := w) (base := base) (k := 0)  (PySem.W.mg_none_of X G z_min) (PySem.W.mg_none_of X G z_sum) F11 (PySem.W.mg_of X G a11) b11
  have h__leave := t__leave (P := l.prog) (w := w) (base := base) (k := 0)  F12 (PySem.W.mg_of X G a12) b12
  have h__changes := t__changes (P := l.prog) (w := w) (base := base) (k := 0)  F13 (PySem.W.mg_of X G a13) b13
  have h_play_tick := t_play_tick (P := l.prog) (w := w) (base := base) (k := 1) (h__join.mono (by decide)) (h__changes.mono (by decide)) (h__leave.mono (by decide)) (PySem.W.mg_none_of X G z_max) F14 (PySem.W.mg_of X G a14) b14
  have h__ticks_along := t__ticks_along (P := l.prog) (w := w) (base := base) (k := 3) (h_check_crossing.mono (by decide)) (h_check_rule.mono (by decide)) (h_check_comings.mono (by decide)) (h_first_state.mono (by decide)) (h_play_tick.mono (by decide)) F15 (PySem.W.mg_of X G a15) b15
  have hO_lights_along := t_lights_along (P := l.prog) (w := w) (base := base) (k := 4) (h__ticks_along.mono (by decide)) F16 (PySem.W.mg_of X G a16) b16
  have h_lights_along : Cl l.prog w K mg base 5 "lights_along" 3 Lr.W_lights := hO_lights_along.cl fun _ _ h => Lr.WO_lights_of h
  have m_lights : ClR l.prog w K mg base 6 C0 "lights" 1 Lr.WD_lights := ⟨⟨_, _, _, t_Desk_lights (P := l.prog) (w := w) (mg := mg) (base := base) (k := 5) (hO_lights_along.mono (by decide)) F17, ⟨a17, n17, k17⟩, b17⟩⟩
  have h_check_coming := t_check_coming (P := l.prog) (w := w) (base := base) (k := 1) (h_is_number.mono (by decide)) F18 (PySem.W.mg_of X G a18) b18
  have m_tick : ClM l.prog w K mg base 8 C0 "tick" 2 (Lr.WM_tick C0) := ⟨⟨_, _, _, t_Desk_tick (P := l.prog) (w := w) (mg := mg) (base := base) (k := 7) (j := 6) (by decide) hC (h_check_coming.mono (by decide)) (PySem.W.mg_none_of X G z_len) ⟨_, PySem.W.mg_of X G cst0⟩ (m_lights.mono (by decide)) F19, ⟨a19, n19, k19⟩, b19⟩⟩
  have mx_undo : ClMX l.prog w K mg base 2 C0 "undo" 1 (Lr.WX_undo C0 C_NothingToUndo) := ⟨⟨_, _, _, t_Desk_undo (P := l.prog) (w := w) (mg := mg) (base := base) (k := 1) hC (PySem.W.mg_none_of X G z_len) E_NothingToUndo F20, ⟨a20, n20, k20⟩, b20⟩⟩
  have mx_redo : ClMX l.prog w K mg base 2 C0 "redo" 1 (Lr.WX_redo C0 C_NothingToUndo) := ⟨⟨_, _, _, t_Desk_redo (P := l.prog) (w := w) (mg := mg) (base := base) (k := 1) hC (PySem.W.mg_none_of X G z_len) E_NothingToUndo F21, ⟨a21, n21, k21⟩, b21⟩⟩
  have m_copy : ClSN l.prog w K mg base 6 C0 "copy" (Lr.W_copy C0) := ⟨⟨_, _, _, t_Desk_copy (P := l.prog) (w := w) (mg := mg) (base := base) (k := 5) (j := 4) (by decide) hC (c_Desk.mono (by decide)) (PySem.W.mg_none_of X G z_list) F22, ⟨a22, n22, k22⟩, b22⟩⟩
  have h__law_draw := t__law_draw (P := l.prog) (w := w) (base := base) (k := 0)  (PySem.W.mg_none_of X G z_len) F23 (PySem.W.mg_of X G a23) b23
  have h__law_crossing := t__law_crossing (P := l.prog) (w := w) (base := base) (k := 1) (h__law_draw.mono (by decide)) F24 (PySem.W.mg_of X G a24) b24
  have h__law_pick := t__law_pick (P := l.prog) (w := w) (base := base) (k := 1) (h__law_draw.mono (by decide)) (PySem.W.mg_none_of X G z_len) F25 (PySem.W.mg_of X G a25) b25
  have h__law_rule := t__law_rule (P := l.prog) (w := w) (base := base) (k := 2) (h__law_pick.mono (by decide)) (h__law_draw.mono (by decide)) F26 (PySem.W.mg_of X G a26) b26
  have c__law_back : ClMd l.prog w K mg base 4 "_law_back" 2 (Lr.W_back K C_LightError C_NothingToUndo C0) := ⟨⟨_, _, _, t__law_back (P := l.prog) (w := w) (mg := mg) (base := base) (k := 3) hC (mx_undo.mono (by decide)) (mx_redo.mono (by decide)) (PySem.W.mg_none_of X G z_isinstance) (PySem.W.mg_of X G gE_LightError) (PySem.W.mg_of X G gE_NothingToUndo) F27, PySem.W.mg_of X G a27, k27, b27⟩⟩
  have c__law_copied : ClDN l.prog w K mg base 8 "_law_copied" 2 (Lr.W_copied K C_LightError C_NothingToUndo C0) := t__law_copied (P := l.prog) (w := w) (mg := mg) (base := base) (k := 7) (j := 6) (by decide) hC (c_eq.mono (by decide)) (m_comings.mono (by decide)) (m_copy.mono (by decide)) (c__law_back.mono (by decide)) F28 (PySem.W.mg_of X G a28) b28
  exact t_law (P := l.prog) (w := w) (mg := mg) (base := base) (k := 9) (j := 8) (by decide) hC (h__law_crossing.mono (by decide)) (h__law_rule.mono (by decide)) (h__law_draw.mono (by decide)) (h_lights_along.mono (by decide)) (PySem.W.mg_none_of X G z_range) (c_Desk.mono (by decide)) (m_tick.mono (by decide)) (m_comings.mono (by decide)) (m_lights.mono (by decide)) (c__law_back.mono (by decide)) (c__law_copied.mono (by decide)) (c_eq.mono (by decide)) i_NothingToUndo F29
end Lx
open PySem PySem.W PyProof.Rows
set_option maxHeartbeats 0 in
theorem PySem.Challenge.cw_lightrules_k25_whole_histories_holds : PySem.Challenge.rw_lightrules_k25_whole_histories.Holds := by
  w_on; o_law; k_head; (case hw => w_witness2)
  k_fill
  refine L2.walk_of (l := PySem.Challenge.rw_lightrules_k25_whole_histories) (n := 63) (k := 10) (x := "_law_script") (CX := fun _ => L2.CX0) (sp := fun w => Ab.spA ⟨_, PySem.Challenge.rw_lightrules_k25_whole_histories.prog, w⟩ 1 Ab.WLaw) rfl (by decide) rfl ⟨rfl, by decide, by decide⟩ (fun w h Y => PySem.W.kIn_of Y) ?F (fun _ _ a ns hl _ hS => Ab.law_sp hl hS) (fun _ _ _ _ _ h => h)
  case F =>
    intro w mg fa h KX G hmg
    refine' Lx.all_mk KX G hmg ?aC ?dg1 ?dg2 ?dg3 ?dg4 ?df0 ?df1 ?df2 ?df3 ?dm1 ?dm2 ?gE_LightError ?hd_LightError ?ty_LightError ?gE_NothingToUndo ?hd_NothingToUndo ?ty_NothingToUndo ?sb_LightError ?hnE ?htE ?xp_NothingToUndo ?kp_NothingToUndo ?sb_NothingToUndo ?sv_NothingToUndo ?ga_NothingToUndo ?gt_NothingToUndo ?ca_NothingToUndo ?mo_NothingToUndo ?su_NothingToUndo_LightError ?su_NothingToUndo_NothingToUndo ?eq_ne ?eq_mr ?eq_cl ?eq_hd ?eq_ty ?a0 ?l0 ?c0 ?k0 ?a1 ?l1 ?c1 ?k1 ?a2 ?l2 ?c2 ?k2 ?a3 ?l3 ?c3 ?k3 ?a4 ?l4 ?c4 ?k4 ?a5 ?l5 ?c5 ?k5 ?n5 ?a6 ?l6 ?c6 ?k6 ?n6 ?a7 ?l7 ?c7 ?k7 ?n7 ?a8 ?l8 ?c8 ?k8 ?a9 ?l9 ?c9 ?k9 ?a10 ?l10 ?c10 ?k10 ?a11 ?l11 ?c11 ?k11 ?a12 ?l12 ?c12 ?k12 ?a13 ?l13 ?c13 ?k13 ?a14 ?l14 ?c14 ?k14 ?a15 ?l15 ?c15 ?k15 ?a16 ?l16 ?c16 ?k16 ?a17 ?l17 ?c17 ?k17 ?n17 ?a18 ?l18 ?c18 ?k18 ?a19 ?l19 ?c19 ?k19 ?n19 ?a20 ?l20 ?c20 ?k20 ?n20 ?a21 ?l21 ?c21 ?k21 ?n21 ?a22 ?l22 ?c22 ?k22 ?n22 ?a23 ?l23 ?c23 ?k23 ?a24 ?l24 ?c24 ?k24 ?a25 ?l25 ?c25 ?k25 ?a26 ?l26 ?c26 ?k26 ?a27 ?l27 ?c27 ?k27 ?a28 ?l28 ?c28 ?k28 ?a29 ?l29 ?c29 ?k29 ?z_isinstance ?z_bool ?z_int ?z_len ?z_tuple ?z_str ?z_all ?z_list ?z_min ?z_sum ?z_max ?z_range ?cst0 ?ta0 ?tl0 ?tk0x ?ts0 ?tv0_0 ?tv0_1 ?tv0_2 ?tv0_3 ?tv0_4 ?tv0_5
    (case aC => k_is)
    (case dg1 => k_is)
    (case dg2 => k_is)
    (case dg3 => k_is)
    (case dg4 => k_is)
    (case df0 => k_is)
    (case df1 => k_is)
    (case df2 => k_is)
    (case df3 => k_is)
    (case dm1 => k_is)
    (case dm2 => k_is)
    (case gE_LightError => k_is)
    (case hd_LightError => k_is)
    (case ty_LightError => k_is)
    (case gE_NothingToUndo => k_is)
    (case hd_NothingToUndo => k_is)
    (case ty_NothingToUndo => k_is)
    (case sb_LightError => k_is)
    (case hnE => k_is)
    (case htE => k_is)
    (case xp_NothingToUndo => k_exc)
    (case kp_NothingToUndo => k_is)
    (case sb_NothingToUndo => k_is)
    (case sv_NothingToUndo => k_is)
    (case ga_NothingToUndo => k_is)
    (case gt_NothingToUndo => k_is)
    (case ca_NothingToUndo => k_is)
    (case mo_NothingToUndo => k_is)
    (case su_NothingToUndo_LightError => k_is)
    (case su_NothingToUndo_NothingToUndo => k_is)
    (case eq_ne => k_is)
    (case eq_mr => k_is)
    (case eq_cl => k_is)
    (case eq_hd => k_is)
    (case eq_ty => k_is)
    (case a0 => k_is)
    (case l0 => k_is)
    (case c0 => k_is)
    (case k0 => k_is)
    (case a1 => k_is)
    (case l1 => k_is)
    (case c1 => k_is)
    (case k1 => k_is)
    (case a2 => k_is)
    (case l2 => k_is)
    (case c2 => k_is)
    (case k2 => k_is)
    (case a3 => k_is)
    (case l3 => k_is)
    (case c3 => k_is)
    (case k3 => k_is)
    (case a4 => k_is)
    (case l4 => k_is)
    (case c4 => k_is)
    (case k4 => k_is)
    (case a5 => k_is)
    (case l5 => k_is)
    (case c5 => k_is)
    (case k5 => k_is)
    (case n5 => k_is)
    (case a6 => k_is)
    (case l6 => k_is)
    (case c6 => k_is)
    (case k6 => k_is)
    (case n6 => k_is)
    (case a7 => k_is)
    (case l7 => k_is)
    (case c7 => k_is)
    (case k7 => k_is)
    (case n7 => k_is)
    (case a8 => k_is)
    (case l8 => k_is)
    (case c8 => k_is)
    (case k8 => k_is)
    (case a9 => k_is)
    (case l9 => k_is)
    (case c9 => k_is)
    (case k9 => k_is)
    (case a10 => k_is)
    (case l10 => k_is)
    (case c10 => k_is)
    (case k10 => k_is)
    (case a11 => k_is)
    (case l11 => k_is)
    (case c11 => k_is)
    (case k11 => k_is)
    (case a12 => k_is)
    (case l12 => k_is)
    (case c12 => k_is)
    (case k12 => k_is)
    (case a13 => k_is)
    (case l13 => k_is)
    (case c13 => k_is)
    (case k13 => k_is)
    (case a14 => k_is)
    (case l14 => k_is)
    (case c14 => k_is)
    (case k14 => k_is)
    (case a15 => k_is)
    (case l15 => k_is)
    (case c15 => k_is)
    (case k15 => k_is)
    (case a16 => k_is)
    (case l16 => k_is)
    (case c16 => k_is)
    (case k16 => k_is)
    (case a17 => k_is)
    (case l17 => k_is)
    (case c17 => k_is)
    (case k17 => k_is)
    (case n17 => k_is)
    (case a18 => k_is)
    (case l18 => k_is)
    (case c18 => k_is)
    (case k18 => k_is)
    (case a19 => k_is)
    (case l19 => k_is)
    (case c19 => k_is)
    (case k19 => k_is)
    (case n19 => k_is)
    (case a20 => k_is)
    (case l20 => k_is)
    (case c20 => k_is)
    (case k20 => k_is)
    (case n20 => k_is)
    (case a21 => k_is)
    (case l21 => k_is)
    (case c21 => k_is)
    (case k21 => k_is)
    (case n21 => k_is)
    (case a22 => k_is)
    (case l22 => k_is)
    (case c22 => k_is)
    (case k22 => k_is)
    (case n22 => k_is)
    (case a23 => k_is)
    (case l23 => k_is)
    (case c23 => k_is)
    (case k23 => k_is)
    (case a24 => k_is)
    (case l24 => k_is)
    (case c24 => k_is)
    (case k24 => k_is)
    (case a25 => k_is)
    (case l25 => k_is)
    (case c25 => k_is)
    (case k25 => k_is)
    (case a26 => k_is)
    (case l26 => k_is)
    (case c26 => k_is)
    (case k26 => k_is)
    (case a27 => k_is)
    (case l27 => k_is)
    (case c27 => k_is)
    (case k27 => k_is)
    (case a28 => k_is)
    (case l28 => k_is)
    (case c28 => k_is)
    (case k28 => k_is)
    (case a29 => k_is)
    (case l29 => k_is)
    (case c29 => k_is)
    (case k29 => k_is)
    (case z_isinstance => k_is)
    (case z_bool => k_is)
    (case z_int => k_is)
    (case z_len => k_is)
    (case z_tuple => k_is)
    (case z_str => k_is)
    (case z_all => k_is)
    (case z_list => k_is)
    (case z_min => k_is)
    (case z_sum => k_is)
    (case z_max => k_is)
    (case z_range => k_is)
    (case cst0 => k_is)
    (case ta0 => k_is)
    (case tl0 => k_is)
    (case tv0_0 => k_is)
    (case tv0_1 => k_is)
    (case tv0_2 => k_is)
    (case tv0_3 => k_is)
    (case tv0_4 => k_is)
    (case tv0_5 => k_is)
    (case tk0x => k_keys)
    (case ts0 => decide)
