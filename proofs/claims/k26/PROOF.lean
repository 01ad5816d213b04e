import PyProof.Rows.All
import Wide.All
import OpenK.AllK
import Wide.FinOn
import HandS.ForMost
import HandS.IsInst
import KE.KeyNested
import KE.KDictKeyed
import KE.KDictWalk
import KE.KDictDisplayH
import HandS.Style
import HandS.TupAny
import KE.KUnpackStar
import KE.KTupSum
import HandS.Wide
import HandS.More
import HandS.FltList
import HandS.NoneIn
import PyProof.WalksMore
import PyProof.Rows.SeqRoads
import HandS.ReCall
import PyProof.ZipIter
import HandS.Zip0
import HandS.Star
import PyProof.Rows.Range3
import HandS.Deep
import KE.SortData
import KE.DataMinMax
import HandS.WordsExc
import OpenK.KOps
import HandS.HotCalls
import HandS.Conv
import HandS.ExcIs
import HandS.Text
import HandS.StrMore
import HandS.Iter
import HandS.RaiseMore
import PySem.Challenge.RW_lightrules_k26_whole_texts
set_option Elab.async false
set_option linter.all false
set_option maxRecDepth 100000
set_option maxHeartbeats 4000000
/-! Data above the heap: readings of the hand layer lifted to plain data. -/
namespace Ab
open PySem L2

abbrev DD := PyData
/-- the part of the top that a proof reads, with the program and the world -/
structure KW where
  fr : PySem.W.Frag
  P : Program
  w : World
instance : Coe KW PySem.W.Frag := ⟨KW.fr⟩
abbrev kw (X : Cx) : KW := ⟨Cx.K X, X.prog, X.w⟩
abbrev knd (K : KW) := nestedKind K.P K.w
/-- keys that are whole numbers or None -/
def ltIs : Option Int → Value → Bool
  | .none, .none => true
  | .some i, .int j _ => decide (i = j)
  | _, _ => false
theorem ltIs_shape : ∀ {k : Option Int} {v : Value}, ltIs k v = true → (k = .none ∧ v = .none) ∨ ∃ i t, k = .some i ∧ v = .int i t
  | .none, v, h => by cases v <;> first | exact .inl ⟨rfl, rfl⟩ | cases h
  | .some i, v, h => by
    cases v with
    | int j t => exact .inr ⟨i, t, rfl, by rw [of_decide_eq_true (show decide (i = j) = true from h)]⟩
    | _ => cases h
theorem pyHash_noneL {P : Program} {w : World} {A : Around} {E : Value → Shared → Prop} {s : Shared} {Q : Int → Shared → Prop} (h : Q (reduceHash 0xFCA86420) { s with toks := s.toks + 1 }) : wpAny (model P w) A (PySem.pyHash .none) Q E s :=
  PySem.W.pyHash_slot (T := "NoneType") rfl F.slot_NoneType_hash F.entry_NoneType_hash (F.args_NoneType_hash_1 _) (beq_builtin_none _) (.inl rfl) (wpAny_bind (wpAny_pure (wpAny_bind (wpAny_mkInt (wpAny_pure ⟨_, _, rfl, h⟩)))))
def ltKind (P : Program) (w : World) : PySem.KeyKind P w (Option Int) where
  is := ltIs
  hash := fun k => match k with
    | .none => reduceHash 0xFCA86420
    | .some i => hashInt i
  inj := fun v a b ha hb => by
    rcases ltIs_shape ha with ⟨rfl, rfl⟩ | ⟨i, t, rfl, rfl⟩
    · rcases ltIs_shape hb with ⟨rfl, _⟩ | ⟨j, u, rfl, e⟩
      · rfl
      · cases e
    · rcases ltIs_shape hb with ⟨rfl, e⟩ | ⟨j, u, rfl, e⟩
      · cases e
      · injection e with e1 _; rw [e1]
  byValue := fun k v h => by
    rcases ltIs_shape h with ⟨rfl, rfl⟩ | ⟨i, t, rfl, rfl⟩ <;> rfl
  pyHash := fun hv h => by
    rcases ltIs_shape hv with ⟨rfl, rfl⟩ | ⟨i, t, rfl, rfl⟩
    · exact pyHash_noneL h
    · exact wpAny_pyHash_int h
  eqBool := fun {A E s a b u v Q} hu hv h => by
    rcases ltIs_shape hu with ⟨rfl, rfl⟩ | ⟨i, t, rfl, rfl⟩
    · rcases ltIs_shape hv with ⟨rfl, rfl⟩ | ⟨j, u, rfl, rfl⟩
      · exact SeqAt.EqAt.same _ _ _ _ _ h
      · exact SeqAt.EqAt.none_int j u _ _ _ _ h
    · rcases ltIs_shape hv with ⟨rfl, rfl⟩ | ⟨j, u, rfl, rfl⟩
      · exact SeqAt.EqAt.int_none i t _ _ _ _ h
      · have e : decide ((some i : Option Int) = some j) = (i == j) := by
          by_cases q : i = j
          · subst q; simp
          · rw [decide_eq_false (fun z => q (Option.some.inj z))]
            exact (beq_eq_false_iff_ne.mpr q).symm
        rw [e] at h
        exact wpAny_eqBool_int h
  «strs» := fun k x t v h => by
    rcases ltIs_shape h with ⟨rfl, e⟩ | ⟨i, u, rfl, e⟩ <;> cases e
/-- a thing of one's own: a list, a dict, a dict whose keys are whole numbers or None -/
inductive Og where
  | lst (ds : List DD) | dct (kvs : List (DD × DD)) | lct (kvs : List (Option Int × DD))
def Og.d : Og → DD
  | .lst ds => .list ds
  | .dct kvs => .dict kvs
  | .lct _ => .none
/-- what can be settled -/
def Og.ok : Og → Prop
  | .lst _ => True
  | .dct _ => True
  | .lct _ => False
/-- a slot: unset, a datum that stays, a thing of one's own that may still change, a town (two ints that may change), the script -/
abbrev Kd := Option (List (DD × DD) → Prop)
/-- a thing of one's own that is made of several objects: what is known of it -/
structure LnT where
  A : List Addr
  /-- new in this def: it may be changed there -/
  own : Bool
  at_ : KW → Hp → Hp → V → Prop
  mono : ∀ {K : KW} {H F H' F' : Hp} {v : V}, at_ K H F v → (∀ x ∈ A, H' x = H x) → (∀ a o, F a = some o → F' a = some o) → at_ K H' F' v
inductive Sl where
  | un | va (d : DD) | og (g : Og) | ty (k : Kd) | sc (ns : List Int) | ln (φ : LnT)
/-- a town; a dict that many defs write, whose entries keep J -/
abbrev Sl.tw : Sl := .ty none
abbrev Sl.kn (J : List (DD × DD) → Prop) : Sl := .ty (some J)
abbrev Sl.ow (ds : List DD) : Sl := .og (.lst ds)
abbrev Sl.dc (kvs : List (DD × DD)) : Sl := .og (.dct kvs)
abbrev Sl.lc (kvs : List (Option Int × DD)) : Sl := .og (.lct kvs)
abbrev AE := List Sl

/-! keys -/
mutual
def nk : DD → NestedKey
  | .none => .none
  | .bool b => .num (if b = true then 1 else 0)
  | .int i => .num i
  | .str x => .text x
  | .tuple ds => .tup (nks ds)
  | .list _ => .none
  | .dict _ => .none
def nks : List DD → List NestedKey
  | [] => []
  | d :: ds => nk d :: nks ds
end
mutual
def keyD : DD → Bool
  | .none => true
  | .bool _ => true
  | .int _ => true
  | .str _ => true
  | .tuple ds => keyDs ds
  | .list _ => false
  | .dict _ => false
def keyDs : List DD → Bool
  | [] => true
  | d :: ds => keyD d && keyDs ds
end
/-- a key: a tuple of such things -/
def isKey : DD → Bool
  | .tuple ds => keyDs ds && decide ((nk (.tuple ds)).depth ≤ 8)
  | _ => false
/-- the object at a is o -/
def KDo (a : Addr) (o : Obj) : HO := .ext fun h => h.get? a = some o
/-- o is a dict with the entries xs -/
def DO (K : KW) (a : Addr) (o : Obj) (xs : List (NestedKey × Addr × Value)) : Prop :=
  o.ExactDict ∧ (∃ es ep, o.data = .dict es ep ∧ es.toList = xs.map (entryOfKey (knd K))) ∧ (xs.map (·.1)).Nodup ∧ (a == sysModules) = false ∧ xs.length ≤ sizeLine

/-! a value as a datum; a list is a tracked one -/
mutual
inductive Rp (K : KW) (H : Hp) : V → PyData → Prop
  | non : Rp K H .non .none
  | bl (b : Bool) : Rp K H (.bl b) (.bool b)
  | int (i : Int) : Rp K H (.int i) (.int i)
  | str (x : Str) : Rp K H (.str x) (.str x)
  | lst {a : Addr} {xs : List V} {ds : List PyData} : H a = some (.lst xs) → RpAll K H xs ds → Rp K H (.ref a) (.list ds)
  | tup {a : Addr} {xs : List V} {ds : List PyData} : SqT K H a xs → RpAll K H xs ds → Rp K H (.ref a) (.tuple ds)
  | dct {a : Addr} {o : Obj} {xs : List (NestedKey × Addr × Value)} {kvs : List (PyData × PyData)} : H a = some (KDo a o) → DO K a o xs → RpKV K H xs kvs → Rp K H (.ref a) (.dict kvs)
inductive RpKV (K : KW) (H : Hp) : List (NestedKey × Addr × Value) → List (PyData × PyData) → Prop
  | nil : RpKV K H [] []
  | cons {x : NestedKey × Addr × Value} {xs : List (NestedKey × Addr × Value)} {v : V} {kd vd : PyData} {kvs : List (PyData × PyData)} : x.1 = nk kd → isKey kd = true → Rp K H (.ref x.2.1) kd → RelV v x.2.2 → Rp K H v vd → RpKV K H xs kvs → RpKV K H (x :: xs) ((kd, vd) :: kvs)
inductive RpAll (K : KW) (H : Hp) : List V → List PyData → Prop
  | nil : RpAll K H [] []
  | cons {v : V} {vs : List V} {d : PyData} {ds : List PyData} : Rp K H v d → RpAll K H vs ds → RpAll K H (v :: vs) (d :: ds)
end
mutual
theorem Rp.dp {K : KW} {F : Hp} : ∀ {v : V} (d : PyData), d.canLay0 = true → Rp K F v d → Dp K F v d
  | _, .none, _, h => by cases h; exact .non
  | _, .bool b, _, h => by cases h; exact .bl b
  | _, .int i, _, h => by cases h; exact .int i
  | _, .str x, _, h => by cases h; exact .str x
  | _, .list ds, l, h => by cases h with | lst a b => exact .lst (.inl (.inl a)) (RpAll.dp ds (by simpa [PyData.canLay0] using l) b)
  | _, .tuple ds, l, h => by cases h with | tup a b => exact .tup a (RpAll.dp ds (by simpa [PyData.canLay0] using l) b)
  | _, .dict _, l, h => by simp [PyData.canLay0] at l
theorem RpAll.dp {K : KW} {F : Hp} : ∀ {vs : List V} (ds : List PyData), PyData.canLayAll0 ds = true → RpAll K F vs ds → DpAll K F vs ds
  | _, [], _, h => by cases h; exact .nil
  | _, d :: ds, l, h => by
    rw [PyData.canLayAll0, Bool.and_eq_true] at l
    cases h with | cons a b => exact .cons (Rp.dp d l.1 a) (RpAll.dp ds l.2 b)
end

def Sub (F H : Hp) : Prop := ∀ a o, F a = some o → H a = some o
theorem Sub.refl (H : Hp) : Sub H H := fun _ _ h => h
theorem Sub.trans {F G H : Hp} (a : Sub F G) (b : Sub G H) : Sub F H := fun c o h => b c o (a c o h)
theorem Sub.seqL {K : KW} {F H : Hp} {a : Addr} {xs : List V} (e : Sub F H) (h : SqL K F a xs) : SqL K H a xs := by
  rcases h with (h | ⟨o, h⟩) | h
  · exact .inl (.inl (e _ _ h))
  · exact .inl (.inr ⟨o, e _ _ h⟩)
  · exact .inr h
theorem Sub.seqT {K : KW} {F H : Hp} {a : Addr} {xs : List V} (e : Sub F H) (h : SqT K F a xs) : SqT K H a xs := by
  rcases h with (h | ⟨o, h⟩) | h
  · exact .inl (.inl (e _ _ h))
  · exact .inl (.inr ⟨o, e _ _ h⟩)
  · exact .inr h
mutual
theorem Rp.sub {K : KW} {F H : Hp} (e : Sub F H) : ∀ {v : V} (d : PyData), Rp K F v d → Rp K H v d
  | _, .none, h => by cases h; exact .non
  | _, .bool b, h => by cases h; exact .bl b
  | _, .int i, h => by cases h; exact .int i
  | _, .str x, h => by cases h; exact .str x
  | _, .list ds, h => by cases h with | lst a b => exact .lst (e _ _ a) (RpAll.sub e ds b)
  | _, .tuple ds, h => by cases h with | tup a b => exact .tup (e.seqT a) (RpAll.sub e ds b)
  | _, .dict kvs, h => by cases h with | dct a b c => exact .dct (e _ _ a) b (RpKV.sub e kvs c)
theorem RpKV.sub {K : KW} {F H : Hp} (e : Sub F H) : ∀ {xs : List (NestedKey × Addr × Value)} (kvs : List (PyData × PyData)), RpKV K F xs kvs → RpKV K H xs kvs
  | _, [], h => by cases h; exact .nil
  | _, (k, v) :: kvs, h => by cases h with | cons a b c d f g => exact .cons a b (Rp.sub e k c) d (Rp.sub e v f) (RpKV.sub e kvs g)
theorem RpAll.sub {K : KW} {F H : Hp} (e : Sub F H) : ∀ {vs : List V} (ds : List PyData), RpAll K F vs ds → RpAll K H vs ds
  | _, [], h => by cases h; exact .nil
  | _, d :: ds, h => by cases h with | cons a b => exact .cons (Rp.sub e d a) (RpAll.sub e ds b)
end
theorem RpAll.len {K : KW} {F : Hp} : ∀ {vs : List V} {ds : List PyData}, RpAll K F vs ds → vs.length = ds.length
  | _, [], h => by cases h; rfl
  | _, d :: ds, h => by cases h with | cons a b => rw [List.length_cons, List.length_cons, RpAll.len b]
theorem RpAll.get {K : KW} {F : Hp} : ∀ {vs : List V} {ds : List PyData} {i : Nat} {d : PyData}, RpAll K F vs ds → ds[i]? = some d → ∃ v, vs[i]? = some v ∧ Rp K F v d
  | _, [], _, _, h, e => by simp at e
  | _, d :: ds, 0, d', h, e => by cases h with | cons a b => cases Option.some.inj e; exact ⟨_, rfl, a⟩
  | _, d :: ds, i + 1, d', h, e => by cases h with | cons a b => exact RpAll.get (i := i) b (by simpa using e)
theorem RpAll.getV {K : KW} {F : Hp} : ∀ {vs : List V} {ds : List PyData} {i : Nat} {v : V}, RpAll K F vs ds → vs[i]? = some v → ∃ d, ds[i]? = some d ∧ Rp K F v d
  | _, [], _, _, h, e => by cases h; simp at e
  | _, d :: ds, 0, d', h, e => by cases h with | cons a b => cases Option.some.inj e; exact ⟨_, rfl, a⟩
  | _, d :: ds, i + 1, d', h, e => by cases h with | cons a b => exact RpAll.getV (i := i) b (by simpa using e)
theorem RpAll.app {K : KW} {F : Hp} : ∀ {vs ws : List V} {ds es : List PyData}, RpAll K F vs ds → RpAll K F ws es → RpAll K F (vs ++ ws) (ds ++ es)
  | _, _, [], _, h, g => by cases h; exact g
  | _, _, d :: ds, _, h, g => by cases h with | cons a b => exact .cons a (RpAll.app b g)
theorem RpAll.take {K : KW} {F : Hp} : ∀ {vs : List V} {ds : List PyData} (n : Nat), RpAll K F vs ds → RpAll K F (vs.take n) (ds.take n)
  | _, _, 0, _ => .nil
  | _, [], _ + 1, h => by cases h; exact .nil
  | _, d :: ds, n + 1, h => by cases h with | cons a b => exact .cons a (RpAll.take n b)
theorem RpAll.drop {K : KW} {F : Hp} : ∀ {vs : List V} {ds : List PyData} (n : Nat), RpAll K F vs ds → RpAll K F (vs.drop n) (ds.drop n)
  | _, _, 0, h => h
  | _, [], _ + 1, h => by cases h; exact .nil
  | _, d :: ds, n + 1, h => by cases h with | cons a b => exact RpAll.drop n b
theorem RpAll.set {K : KW} {F : Hp} : ∀ {vs : List V} {ds : List PyData} (n : Nat) {v : V} {d : PyData}, RpAll K F vs ds → Rp K F v d → RpAll K F (vs.set n v) (ds.set n d)
  | _, [], _, _, _, h, _ => by cases h; exact .nil
  | _, d :: ds, 0, _, _, h, g => by cases h with | cons a b => exact .cons g b
  | _, d :: ds, n + 1, _, _, h, g => by cases h with | cons a b => exact .cons a (RpAll.set n b g)
theorem RpAll.rep {K : KW} {F : Hp} {vs : List V} {ds : List PyData} (h : RpAll K F vs ds) : ∀ n : Nat, RpAll K F (List.replicate n vs).flatten (List.replicate n ds).flatten
  | 0 => .nil
  | n + 1 => by
    rw [List.replicate_succ, List.replicate_succ, List.flatten_cons, List.flatten_cons]
    exact RpAll.app h (RpAll.rep h n)

/-- o is a dict with the entries xs, keys whole numbers or None -/
def DL (K : KW) (a : Addr) (o : Obj) (xs : List (Option Int × Value)) : Prop := o.IsDictOf (ltKind K.P K.w) xs ∧ (a == sysModules) = false ∧ xs.length ≤ sizeLine
abbrev RpLs (K : KW) (F : Hp) : List (Option Int × Value) → List (Option Int × DD) → Prop := Paired fun x p => x.1 = p.1 ∧ ∃ v, RelV v x.2 ∧ Rp K F v p.2
theorem RpLs.sub {K : KW} {F H : Hp} (e : Sub F H) {xs : List (Option Int × Value)} {kvs : List (Option Int × DD)} (h : RpLs K F xs kvs) : RpLs K H xs kvs :=
  Paired.mapP h fun _ _ ⟨a, v, b, c⟩ => ⟨a, v, b, Rp.sub e _ c⟩
/-- what stands at a for a thing of one's own -/
inductive OgRp (K : KW) (F : Hp) (a : Addr) : HO → Og → Prop
  | lst {vs : List V} {ds : List DD} : RpAll K F vs ds → OgRp K F a (.lst vs) (.lst ds)
  | dct {o : Obj} {xs : List (NestedKey × Addr × Value)} {kvs : List (DD × DD)} : DO K a o xs → RpKV K F xs kvs → OgRp K F a (KDo a o) (.dct kvs)
  | lct {o : Obj} {xs : List (Option Int × Value)} {kvs : List (Option Int × DD)} : DL K a o xs → RpLs K F xs kvs → OgRp K F a (KDo a o) (.lct kvs)
theorem OgRp.sub {K : KW} {F H : Hp} {a : Addr} {u : HO} {g : Og} (e : Sub F H) : OgRp K F a u g → OgRp K H a u g
  | .lst h => .lst (RpAll.sub e _ h)
  | .dct d h => .dct d (RpKV.sub e _ h)
  | .lct d h => .lct d (h.sub e)
theorem OgRp.rp {K : KW} {F H : Hp} {a : Addr} {u : HO} {g : Og} (e : Sub F H) (ha : H a = some u) (ok : g.ok) : OgRp K F a u g → Rp K H (.ref a) g.d
  | .lst h => .lst ha (RpAll.sub e _ h)
  | .dct d h => .dct ha d (RpKV.sub e _ h)
  | .lct _ _ => ok.elim
theorem OgRp.mut {K : KW} {F : Hp} {a : Addr} {u : HO} {g : Og} : OgRp K F a u g → Mut (some u)
  | .lst _ => True.intro
  | .dct _ _ => True.intro
  | .lct _ _ => True.intro
theorem OgRp.lstOf {K : KW} {F : Hp} {a : Addr} {u : HO} {ds : List DD} : OgRp K F a u (.lst ds) → ∃ vs, u = .lst vs ∧ RpAll K F vs ds
  | .lst h => ⟨_, rfl, h⟩
theorem OgRp.dctOf {K : KW} {F : Hp} {a : Addr} {u : HO} {kvs : List (DD × DD)} : OgRp K F a u (.dct kvs) → ∃ o xs, u = KDo a o ∧ DO K a o xs ∧ RpKV K F xs kvs
  | .dct d h => ⟨_, _, rfl, d, h⟩
theorem OgRp.lctOf {K : KW} {F : Hp} {a : Addr} {u : HO} {kvs : List (Option Int × DD)} : OgRp K F a u (.lct kvs) → ∃ o xs, u = KDo a o ∧ DL K a o xs ∧ RpLs K F xs kvs
  | .lct d h => ⟨_, _, rfl, d, h⟩

/-- the town's two ints -/
def Tc (H : Hp) (a : Addr) : Prop := ∃ (p : Nat) (q : Int), H a = some (.lst [.int (p : Int), .int q])

mutual
theorem Rp.updK {K : KW} {H : Hp} {p : Addr} {o : HO} (hp : H p = none ∨ Mut (H p)) : ∀ {v : V} (d : PyData), keyD d = true → Rp K H v d → Rp K (upd H p o) v d
  | _, .none, _, h => by cases h; exact .non
  | _, .bool b, _, h => by cases h; exact .bl b
  | _, .int i, _, h => by cases h; exact .int i
  | _, .str x, _, h => by cases h; exact .str x
  | _, .list ds, k, h => by simp [keyD] at k
  | _, .tuple ds, k, h => by
    cases h with
    | tup a b =>
      refine .tup ?_ (RpAll.updK hp ds (by simpa [keyD] using k) b)
      have ne : ∀ {c : Addr} {u : HO}, H c = some u → ¬ Mut (some u) → (upd H p o) c = some u := fun {c u} hc nm => by
        have : c ≠ p := fun z => by
          subst z
          rcases hp with hp | hp
          · rw [hc] at hp; cases hp
          · rw [hc] at hp; exact nm hp
        rw [upd_ne this]; exact hc
      rcases a with (a | ⟨u, a⟩) | a
      · exact .inl (.inl (ne a fun z => z.elim))
      · exact .inl (.inr ⟨u, ne a fun z => z.elim⟩)
      · exact .inr a
  | _, .dict _, k, h => by simp [keyD] at k
theorem RpAll.updK {K : KW} {H : Hp} {p : Addr} {o : HO} (hp : H p = none ∨ Mut (H p)) : ∀ {vs : List V} (ds : List PyData), keyDs ds = true → RpAll K H vs ds → RpAll K (upd H p o) vs ds
  | _, [], _, h => by cases h; exact .nil
  | _, d :: ds, k, h => by
    rw [keyDs, Bool.and_eq_true] at k
    cases h with | cons a b => exact .cons (Rp.updK hp d k.1 a) (RpAll.updK hp ds k.2 b)
end
theorem isKey_keyD : ∀ {d : DD}, isKey d = true → keyD d = true
  | .tuple ds, h => by
    rw [isKey, Bool.and_eq_true] at h
    rw [keyD]; exact h.1
  | .none, h => by cases h
  | .bool _, h => by cases h
  | .int _, h => by cases h
  | .str _, h => by cases h
  | .list _, h => by cases h
  | .dict _, h => by cases h
def BoolV (kvs : List (DD × DD)) : Prop := ∀ e ∈ kvs, ∃ b, e.2 = .bool b
theorem RpKV.updK {K : KW} {H : Hp} {p : Addr} {o : HO} (hp : H p = none ∨ Mut (H p)) : ∀ {xs : List (NestedKey × Addr × Value)} (kvs : List (PyData × PyData)), BoolV kvs → RpKV K H xs kvs → RpKV K (upd H p o) xs kvs
  | _, [], _, h => by cases h; exact .nil
  | _, (k, v) :: kvs, hb, h => by
    cases h with
    | cons a b c d f g =>
      obtain ⟨x, e⟩ := hb (k, v) List.mem_cons_self
      have e : v = .bool x := e
      subst e
      exact .cons a b (Rp.updK hp k (isKey_keyD b) c) d (Rp.updK hp _ rfl f) (RpKV.updK hp kvs (fun y hy => hb y (List.mem_cons_of_mem _ hy)) g)
/-- a dict whose entries keep J -/
def Kc (K : KW) (H : Hp) (a : Addr) (J : List (DD × DD) → Prop) : Prop := ∃ o xs kvs, H a = some (KDo a o) ∧ DO K a o xs ∧ RpKV K H xs kvs ∧ BoolV kvs ∧ J kvs
/-- the things that change everywhere: which, and of what kind -/
structure Tws (K : KW) where
  is : Addr → Prop
  kd : Addr → Kd
instance {K : KW} : CoeFun (Tws K) fun _ => Addr → Prop := ⟨Tws.is⟩
def Tws.ok {K : KW} (T : Tws K) (H : Hp) (a : Addr) : Prop := match T.kd a with
  | none => Tc H a
  | some J => Kc K H a J
theorem Tws.mono {K : KW} {T : Tws K} {H : Hp} {a p : Addr} {u : HO} (h : T.ok H a) (ne : a ≠ p) (hp : H p = none ∨ Mut (H p)) : T.ok (upd H p u) a := by
  unfold Tws.ok at *
  cases z : T.kd a with
  | none =>
    rw [z] at h
    obtain ⟨p, q, y⟩ := h
    exact ⟨p, q, by rw [upd_ne ne]; exact y⟩
  | some J =>
    rw [z] at h
    obtain ⟨o, xs, kvs, h1, h2, h3, h4, h5⟩ := h
    exact ⟨o, xs, kvs, by rw [upd_ne ne]; exact h1, h2, RpKV.updK hp _ h4 h3, h4, h5⟩
theorem Tws.has {K : KW} {T : Tws K} {H : Hp} {a : Addr} (h : T.ok H a) : ∃ o, H a = some o := by
  unfold Tws.ok at h
  cases z : T.kd a with
  | none =>
    rw [z] at h
    obtain ⟨p, q, y⟩ := h
    exact ⟨_, y⟩
  | some J =>
    rw [z] at h
    obtain ⟨o, xs, kvs, h1, _⟩ := h
    exact ⟨_, h1⟩
theorem Tws.town {K : KW} {T : Tws K} {H : Hp} {a : Addr} (h : T.ok H a) (z : T.kd a = none) : Tc H a := by
  unfold Tws.ok at h
  rw [z] at h
  exact h
theorem Tws.of_town {K : KW} {T : Tws K} {H : Hp} {a : Addr} (h : Tc H a) (z : T.kd a = none) : T.ok H a := by
  unfold Tws.ok
  rw [z]
  exact h
theorem Tws.cell {K : KW} {T : Tws K} {H : Hp} {a : Addr} {J : List (DD × DD) → Prop} (h : T.ok H a) (z : T.kd a = some J) : Kc K H a J := by
  unfold Tws.ok at h
  rw [z] at h
  exact h
theorem Tws.of_cell {K : KW} {T : Tws K} {H : Hp} {a : Addr} {J : List (DD × DD) → Prop} (h : Kc K H a J) (z : T.kd a = some J) : T.ok H a := by
  unfold Tws.ok
  rw [z]
  exact h
theorem Tws.kd_ok {K : KW} {T T' : Tws K} {H : Hp} {a : Addr} (h : T.ok H a) (z : T'.kd a = T.kd a) : T'.ok H a := by
  unfold Tws.ok at *
  rw [z]
  exact h
/-- more is known of the entries -/
def KdLe : Kd → Kd → Prop
  | none, none => True
  | some J', some J => ∀ kvs, J' kvs → J kvs
  | _, _ => False
theorem KdLe.refl : ∀ k : Kd, KdLe k k
  | none => True.intro
  | some _ => fun _ h => h
theorem KdLe.town : ∀ {k : Kd}, KdLe k none → k = none
  | none, _ => rfl
  | some _, h => h.elim
theorem Tws.le_ok {K : KW} {T T' : Tws K} {H : Hp} {a : Addr} (h : T.ok H a) (z : KdLe (T.kd a) (T'.kd a)) : T'.ok H a := by
  unfold Tws.ok at *
  cases e : T.kd a with
  | none =>
    cases e' : T'.kd a with
    | none => rw [e] at h; exact h
    | some J => rw [e, e'] at z; exact z.elim
  | some J =>
    cases e' : T'.kd a with
    | none => rw [e, e'] at z; exact z.elim
    | some J' =>
      rw [e, e'] at z
      rw [e] at h
      obtain ⟨o, xs, kvs, h1, h2, h3, h4, h5⟩ := h
      exact ⟨o, xs, kvs, h1, h2, h3, h4, z _ h5⟩

/-- B, F0: the heap and its settled part at the def's entry; M: the towns handed in; T: all towns; F: what is settled now -/
structure Gd {K : KW} (B F0 : Hp) (M T : Tws K) (H F : Hp) : Prop where
  sub : Sub F H
  f0 : Sub F0 F
  new : ∀ a o, F a = some o → F0 a = some o ∨ B a = none
  keep : ∀ a o, B a = some o → ¬ M a → H a = some o
  tw : ∀ a, T a → F a = none ∧ T.ok H a ∧ (M a ∨ B a = none)
  mt : ∀ a, M a → T a ∧ KdLe (T.kd a) (M.kd a)
structure R (K : KW) (B F0 : Hp) (M T : Tws K) (env : AE) (σ : L2.St) (H F : Hp) : Prop extends Gd B F0 M T H F where
  len : env.length = σ.length
  va : ∀ (i : Nat) d, env[i]? = some (.va d) → ∃ v, σ[i]? = some (some v) ∧ Rp K F v d
  og : ∀ (i : Nat) g, env[i]? = some (.og g) → ∃ a u, σ[i]? = some (some (.ref a)) ∧ H a = some u ∧ F a = none ∧ B a = none ∧ ¬ T a ∧ OgRp K F a u g
  ti : ∀ (i : Nat) (k : Kd), env[i]? = some (.ty k) → ∃ a, T a ∧ T.kd a = k ∧ σ[i]? = some (some (.ref a))
  sc : ∀ (i : Nat) ns, env[i]? = some (.sc ns) → ∃ a, σ[i]? = some (some (.ref a)) ∧ SqL K F a (ns.map V.int)
  di : ∀ (i j : Nat) ds es a, env[i]? = some (.og ds) → env[j]? = some (.og es) → σ[i]? = some (some (.ref a)) → σ[j]? = some (some (.ref a)) → i = j
  ln : ∀ (i : Nat) φ, env[i]? = some (.ln φ) → (∃ v, σ[i]? = some (some v) ∧ φ.at_ K H F v) ∧ ∀ x ∈ φ.A, (∃ o, H x = some o) ∧ F x = none ∧ (φ.own = true → B x = none) ∧ ¬ T x ∧ ∀ (j : Nat) g, env[j]? = some (.og g) → σ[j]? ≠ some (some (.ref x))
theorem R.ow {K : KW} {B F0 : Hp} {M T : Tws K} {env : AE} {σ : L2.St} {H F : Hp} (r : R K B F0 M T env σ H F) (i : Nat) (ds : List DD) (e : env[i]? = some (.ow ds)) : ∃ a vs, σ[i]? = some (some (.ref a)) ∧ H a = some (.lst vs) ∧ F a = none ∧ B a = none ∧ ¬ T a ∧ RpAll K F vs ds := by
  obtain ⟨a, u, h1, h2, h3, h4, h5, h6⟩ := r.og i _ e
  obtain ⟨vs, rfl, h⟩ := h6.lstOf
  exact ⟨a, vs, h1, h2, h3, h4, h5, h⟩
theorem R.dc {K : KW} {B F0 : Hp} {M T : Tws K} {env : AE} {σ : L2.St} {H F : Hp} (r : R K B F0 M T env σ H F) (i : Nat) (kvs : List (DD × DD)) (e : env[i]? = some (.dc kvs)) : ∃ a o xs, σ[i]? = some (some (.ref a)) ∧ H a = some (KDo a o) ∧ F a = none ∧ B a = none ∧ ¬ T a ∧ DO K a o xs ∧ RpKV K F xs kvs := by
  obtain ⟨a, u, h1, h2, h3, h4, h5, h6⟩ := r.og i _ e
  obtain ⟨o, xs, rfl, d, h⟩ := h6.dctOf
  exact ⟨a, o, xs, h1, h2, h3, h4, h5, d, h⟩
theorem R.lc {K : KW} {B F0 : Hp} {M T : Tws K} {env : AE} {σ : L2.St} {H F : Hp} (r : R K B F0 M T env σ H F) (i : Nat) (kvs : List (Option Int × DD)) (e : env[i]? = some (.lc kvs)) : ∃ a o xs, σ[i]? = some (some (.ref a)) ∧ H a = some (KDo a o) ∧ F a = none ∧ B a = none ∧ ¬ T a ∧ DL K a o xs ∧ RpLs K F xs kvs := by
  obtain ⟨a, u, h1, h2, h3, h4, h5, h6⟩ := r.og i _ e
  obtain ⟨o, xs, rfl, d, h⟩ := h6.lctOf
  exact ⟨a, o, xs, h1, h2, h3, h4, h5, d, h⟩
theorem Gd.dom {B F0 : Hp} {M T : Tws K} {H F : Hp} (g : Gd B F0 M T H F) {a : Addr} (h : H a = none) : B a = none := by
  cases e : B a with
  | none => rfl
  | some o =>
    by_cases m : M a
    · obtain ⟨_, y, _⟩ := g.tw a (g.mt a m).1
      obtain ⟨_, z⟩ := Tws.has y
      rw [h] at z; cases z
    · rw [g.keep a o e m] at h; cases h
/-- a step that settles more, makes new things, changes towns alone -/
structure Stp {K : KW} (T : Tws K) (H F H' F' : Hp) : Prop where
  sub : Sub F' H'
  ext : Sub F F'
  new : ∀ a o, F' a = some o → F a = some o ∨ H a = none
  keep : ∀ a o, H a = some o → ¬ T a → H' a = some o
  tc : ∀ a, T a → T.ok H' a
/-- what every step leans on -/
structure Bs {K : KW} (T : Tws K) (H F : Hp) : Prop where
  sub : Sub F H
  tw : ∀ a, T a → F a = none ∧ T.ok H a
section
variable {K : KW} {B F0 : Hp} {M T : Tws K} {env : AE} {σ : L2.St} {H F H' F' H2 F2 : Hp}
theorem Gd.bs (g : Gd B F0 M T H F) : Bs T H F := ⟨g.sub, fun a t => ⟨(g.tw a t).1, (g.tw a t).2.1⟩⟩
theorem Stp.refl (b : Bs T H F) : Stp T H F H F := ⟨b.sub, Sub.refl F, fun _ _ h => .inl h, fun _ _ h _ => h, fun a t => (b.tw a t).2⟩
theorem Stp.dom (b : Stp T H F H' F') {a : Addr} (h : H' a = none) : H a = none := by
  cases e : H a with
  | none => rfl
  | some o =>
    by_cases m : T a
    · obtain ⟨_, z⟩ := Tws.has (b.tc a m)
      rw [h] at z; cases z
    · rw [b.keep a o e m] at h; cases h
theorem Stp.bs (b : Bs T H F) (s : Stp T H F H' F') : Bs T H' F' := ⟨s.sub, fun a t => by
  refine ⟨?_, s.tc a t⟩
  cases e : F' a with
  | none => rfl
  | some o =>
    rcases s.new a o e with h | h
    · rw [(b.tw a t).1] at h; cases h
    · obtain ⟨_, z⟩ := Tws.has (b.tw a t).2
      rw [h] at z; cases z⟩
theorem Stp.trans (a : Stp T H F H' F') (b : Stp T H' F' H2 F2) : Stp T H F H2 F2 := ⟨b.sub, a.ext.trans b.ext, fun c o h => by
  rcases b.new c o h with h | h
  · exact a.new c o h
  · exact .inr (a.dom h), fun c o h t => b.keep c o (a.keep c o h t) t, b.tc⟩
/-- a new object, settled at once -/
theorem Stp.al {p : Addr} {o : HO} (b : Bs T H F) (h : H p = none) : Stp T H F (upd H p o) (upd F p o) := by
  refine ⟨fun a u e => ?_, fun a u e => ?_, fun a u e => ?_, fun a u e _ => ?_, fun a t => ?_⟩
  · by_cases q : a = p
    · subst q; rw [upd_same] at e ⊢; exact e
    · rw [upd_ne q] at e ⊢; exact b.sub a u e
  · rw [upd_ne (ne_of_none (b.sub a u e) h)]; exact e
  · by_cases q : a = p
    · subst q; exact .inr h
    · rw [upd_ne q] at e; exact .inl e
  · rw [upd_ne (ne_of_none e h)]; exact e
  · obtain ⟨_, z⟩ := Tws.has (b.tw a t).2
    exact Tws.mono (b.tw a t).2 (ne_of_none z h) (.inl h)
/-- a new object, not settled -/
theorem Stp.al0 {p : Addr} {o : HO} (b : Bs T H F) (h : H p = none) : Stp T H F (upd H p o) F := by
  refine ⟨fun a u e => ?_, Sub.refl F, fun a u e => .inl e, fun a u e _ => ?_, fun a t => ?_⟩
  · rw [upd_ne (ne_of_none (b.sub a u e) h)]; exact b.sub a u e
  · rw [upd_ne (ne_of_none e h)]; exact e
  · obtain ⟨_, z⟩ := Tws.has (b.tw a t).2
    exact Tws.mono (b.tw a t).2 (ne_of_none z h) (.inl h)
/-- an object of the heap that is not settled, new since H, is settled -/
theorem Stp.fz {a : Addr} {o : HO} (s : Stp T H F H' F') (hH : H a = none) (h : H' a = some o) (hF : F' a = none) : Stp T H F H' (upd F' a o) := by
  refine ⟨fun b u e => ?_, fun b u e => ?_, fun b u e => ?_, s.keep, s.tc⟩
  · by_cases q : b = a
    · subst q; rw [upd_same] at e; cases e; exact h
    · rw [upd_ne q] at e; exact s.sub b u e
  · rw [upd_ne (ne_of_none (s.ext b u e) hF)]; exact s.ext b u e
  · by_cases q : b = a
    · subst q; exact .inr hH
    · rw [upd_ne q] at e; exact s.new b u e
theorem sub_upd {a : Addr} {o : HO} (h : F a = none) : Sub F (upd F a o) := fun b u e => by
  rw [upd_ne (ne_of_none e h)]; exact e
theorem Gd.step (g : Gd B F0 M T H F) (s : Stp T H F H' F') : Gd B F0 M T H' F' := by
  refine ⟨s.sub, g.f0.trans s.ext, fun a o e => ?_, fun a o e m => ?_, fun a t => ?_, g.mt⟩
  · rcases s.new a o e with h | h
    · exact g.new a o h
    · exact .inr (g.dom h)
  · refine s.keep a o (g.keep a o e m) fun t => ?_
    rcases (g.tw a t).2.2 with z | z
    · exact m z
    · rw [e] at z; cases z
  · exact ⟨((s.bs g.bs).tw a t).1, s.tc a t, (g.tw a t).2.2⟩
theorem R.lnS (r : R K B F0 M T env σ H F) {i : Nat} {s' : Sl} {o : Option V} (h1 : ∀ φ, s' ≠ .ln φ) (h2 : ∀ g a, s' = .og g → o = some (.ref a) → ∀ (j : Nat) φ, env[j]? = some (.ln φ) → a ∉ φ.A) :
    ∀ (j : Nat) φ, (env.set i s')[j]? = some (.ln φ) → (∃ v, (σ.set i o)[j]? = some (some v) ∧ φ.at_ K H F v) ∧ ∀ x ∈ φ.A, (∃ o, H x = some o) ∧ F x = none ∧ (φ.own = true → B x = none) ∧ ¬ T x ∧ ∀ (k : Nat) g, (env.set i s')[k]? = some (.og g) → (σ.set i o)[k]? ≠ some (some (.ref x)) := fun j φ he => by
  by_cases q : i = j
  · subst q
    have hl : i < env.length := by
      have := (List.getElem?_eq_some_iff.mp he).1
      rwa [List.length_set] at this
    rw [List.getElem?_set_self hl] at he
    exact absurd (Option.some.inj he) (h1 φ)
  · rw [List.getElem?_set_ne q] at he ⊢
    obtain ⟨hv, h⟩ := r.ln j φ he
    refine ⟨hv, fun x hx => ⟨(h x hx).1, (h x hx).2.1, (h x hx).2.2.1, (h x hx).2.2.2.1, fun k g hk hσ => ?_⟩⟩
    by_cases z : i = k
    · subst z
      have hl : i < env.length := by
        have := (List.getElem?_eq_some_iff.mp hk).1
        rwa [List.length_set] at this
      rw [List.getElem?_set_self hl] at hk
      rw [List.getElem?_set_self (by rw [← r.len]; exact hl)] at hσ
      exact h2 g x (Option.some.inj hk) (Option.some.inj hσ) j φ he hx
    · rw [List.getElem?_set_ne z] at hk hσ
      exact (h x hx).2.2.2.2 k g hk hσ
theorem R.lnE (r : R K B F0 M T env σ H F) {i : Nat} {s' : Sl} (h1 : ∀ φ, s' ≠ .ln φ) (h2 : (∀ g, s' ≠ .og g) ∨ ∃ g, env[i]? = some (.og g)) :
    ∀ (j : Nat) φ, (env.set i s')[j]? = some (.ln φ) → (∃ v, σ[j]? = some (some v) ∧ φ.at_ K H F v) ∧ (∀ x ∈ φ.A, (∃ o, H x = some o) ∧ F x = none ∧ (φ.own = true → B x = none) ∧ ¬ T x ∧ ∀ (k : Nat) g, (env.set i s')[k]? = some (.og g) → σ[k]? ≠ some (some (.ref x))) ∧ env[j]? = some (.ln φ) := fun j φ he => by
  by_cases q : i = j
  · subst q
    have hl : i < env.length := by
      have := (List.getElem?_eq_some_iff.mp he).1
      rwa [List.length_set] at this
    rw [List.getElem?_set_self hl] at he
    exact absurd (Option.some.inj he) (h1 φ)
  · rw [List.getElem?_set_ne q] at he
    obtain ⟨hv, h⟩ := r.ln j φ he
    refine ⟨hv, fun x hx => ⟨(h x hx).1, (h x hx).2.1, (h x hx).2.2.1, (h x hx).2.2.2.1, fun k g hk hσ => ?_⟩, he⟩
    by_cases z : i = k
    · subst z
      have hl : i < env.length := by
        have := (List.getElem?_eq_some_iff.mp hk).1
        rwa [List.length_set] at this
      rw [List.getElem?_set_self hl] at hk
      rcases h2 with h2 | ⟨g', h2⟩
      · exact h2 g (Option.some.inj hk)
      · exact (h x hx).2.2.2.2 i g' h2 hσ
    · rw [List.getElem?_set_ne z] at hk
      exact (h x hx).2.2.2.2 k g hk hσ
/-- what is not yet there is no part of such a thing -/
theorem R.lnf (r : R K B F0 M T env σ H F) {a : Addr} (h : H a = none) : ∀ (j : Nat) φ, env[j]? = some (.ln φ) → a ∉ φ.A := fun j φ hj ha => by
  obtain ⟨⟨o, z⟩, _⟩ := (r.ln j φ hj).2 a ha
  rw [h] at z; cases z
theorem R.lno (r : R K B F0 M T env σ H F) {i : Nat} {g : Og} {a : Addr} (h : env[i]? = some (.og g)) (hs : σ[i]? = some (some (.ref a))) : ∀ (j : Nat) φ, env[j]? = some (.ln φ) → a ∉ φ.A := fun j φ hj ha =>
  ((r.ln j φ hj).2 a ha).2.2.2.2 i g h hs
theorem lnf_set {env : AE} {i : Nat} {s' : Sl} {a : Addr} (h : ∀ (j : Nat) φ, env[j]? = some (.ln φ) → a ∉ φ.A) (h1 : ∀ φ, s' ≠ .ln φ) : ∀ (j : Nat) φ, (env.set i s')[j]? = some (.ln φ) → a ∉ φ.A := fun j φ he => by
  by_cases q : i = j
  · subst q
    have hl : i < env.length := by
      have := (List.getElem?_eq_some_iff.mp he).1
      rwa [List.length_set] at this
    rw [List.getElem?_set_self hl] at he
    exact absurd (Option.some.inj he) (h1 φ)
  · rw [List.getElem?_set_ne q] at he
    exact h j φ he
theorem R.step (r : R K B F0 M T env σ H F) (s : Stp T H F H' F') : R K B F0 M T env σ H' F' := by
  refine ⟨r.toGd.step s, r.len, fun i d e => ?_, fun i ds e => ?_, r.ti, fun i ns e => (let ⟨a, h1, h2⟩ := r.sc i ns e; ⟨a, h1, s.ext.seqL h2⟩), r.di, fun i φ e => ?_⟩
  case refine_3 =>
    obtain ⟨⟨v, h1, h2⟩, h3⟩ := r.ln i φ e
    have kp : ∀ x ∈ φ.A, H' x = H x := fun x hx => by
      obtain ⟨⟨o, ho⟩, _, _, nt, _⟩ := h3 x hx
      rw [ho]; exact s.keep x o ho nt
    refine ⟨⟨v, h1, φ.mono h2 kp s.ext⟩, fun x hx => ?_⟩
    obtain ⟨⟨o, ho⟩, hf, hb, nt, hg⟩ := h3 x hx
    refine ⟨⟨o, by rw [kp x hx]; exact ho⟩, ?_, hb, nt, hg⟩
    cases q : F' x with
    | none => rfl
    | some u =>
      rcases s.new x u q with z | z
      · rw [hf] at z; cases z
      · rw [ho] at z; cases z
  · obtain ⟨v, h1, h2⟩ := r.va i d e
    exact ⟨v, h1, Rp.sub s.ext _ h2⟩
  · obtain ⟨a, vs, h1, h2, h3, h4, h5, h6⟩ := r.og i ds e
    refine ⟨a, vs, h1, s.keep a _ h2 h5, ?_, h4, h5, h6.sub s.ext⟩
    cases q : F' a with
    | none => rfl
    | some o =>
      rcases s.new a o q with z | z
      · rw [h3] at z; cases z
      · rw [h2] at z; cases z
/-- a datum is stored -/
theorem R.put {i : Nat} {v : V} {d : DD} (r : R K B F0 M T env σ H F) (h : Rp K F v d) (s' : Sl) (hs : s' = .va d) : R K B F0 M T (env.set i s') (σ.set i (some v)) H F := by
  subst hs
  refine ⟨r.toGd, by rw [List.length_set, List.length_set]; exact r.len, fun j e he => ?_, fun j ds he => ?_, fun j kk he => ?_, fun j ns he => ?_, fun j k ds es a h1 h2 h3 h4 => ?_, r.lnS (fun φ z => by cases z) (fun g a z => by cases z)⟩
  · by_cases q : i = j
    · subst q
      have hl : i < env.length := by
        have := (List.getElem?_eq_some_iff.mp he).1
        rwa [List.length_set] at this
      rw [List.getElem?_set_self hl] at he
      cases he
      exact ⟨v, List.getElem?_set_self (by rw [← r.len]; exact hl), h⟩
    · rw [List.getElem?_set_ne q] at he ⊢
      exact r.va j e he
  · by_cases q : i = j
    · subst q
      have hl : i < env.length := by
        have := (List.getElem?_eq_some_iff.mp he).1
        rwa [List.length_set] at this
      rw [List.getElem?_set_self hl] at he
      cases he
    · rw [List.getElem?_set_ne q] at he ⊢
      exact r.og j ds he
  · by_cases q : i = j
    · subst q
      have hl : i < env.length := by
        have := (List.getElem?_eq_some_iff.mp he).1
        rwa [List.length_set] at this
      rw [List.getElem?_set_self hl] at he
      cases he
    · rw [List.getElem?_set_ne q] at he ⊢
      exact r.ti j kk he
  · by_cases q : i = j
    · subst q
      have hl : i < env.length := by
        have := (List.getElem?_eq_some_iff.mp he).1
        rwa [List.length_set] at this
      rw [List.getElem?_set_self hl] at he
      cases he
    · rw [List.getElem?_set_ne q] at he ⊢
      exact r.sc j ns he
  · have ne : ∀ {j : Nat} {ds : Og}, (env.set i (.va d))[j]? = some (.og ds) → i ≠ j := fun {j ds} he q => by
      subst q
      have hl : i < env.length := by
        have := (List.getElem?_eq_some_iff.mp he).1
        rwa [List.length_set] at this
      rw [List.getElem?_set_self hl] at he
      cases he
    have n1 := ne h1
    have n2 := ne h2
    rw [List.getElem?_set_ne n1] at h1 h3
    rw [List.getElem?_set_ne n2] at h2 h4
    exact r.di j k ds es a h1 h2 h3 h4
/-- an own list is stored: new at its address -/
theorem R.putG {i : Nat} {a : Addr} {vs : HO} {ds : Og} (r : R K B F0 M T env σ H F) (h1 : H a = some vs) (h2 : F a = none) (h3 : B a = none) (h4 : ¬ T a) (h5 : OgRp K F a vs ds)
    (hn : ∀ (j : Nat) es, j ≠ i → env[j]? = some (.og es) → σ[j]? ≠ some (some (.ref a))) (hl : ∀ (j : Nat) φ, env[j]? = some (.ln φ) → a ∉ φ.A) : R K B F0 M T (env.set i (.og ds)) (σ.set i (some (.ref a))) H F := by
  have at_ : ∀ {j : Nat} {s : Sl}, (env.set i (.og ds))[j]? = some s → (i = j ∧ s = .og ds ∧ i < env.length) ∨ (i ≠ j ∧ env[j]? = some s) := fun {j s} he => by
    by_cases q : i = j
    · subst q
      have hl : i < env.length := by
        have := (List.getElem?_eq_some_iff.mp he).1
        rwa [List.length_set] at this
      rw [List.getElem?_set_self hl] at he
      cases he
      exact .inl ⟨rfl, rfl, hl⟩
    · rw [List.getElem?_set_ne q] at he
      exact .inr ⟨q, he⟩
  refine ⟨r.toGd, by rw [List.length_set, List.length_set]; exact r.len, fun j e he => ?_, fun j es he => ?_, fun j kk he => ?_, fun j ns he => ?_, fun j k es fs b g1 g2 g3 g4 => ?_, r.lnS (fun φ z => by cases z) (fun g c _ e => by cases e; exact hl)⟩
  · rcases at_ he with ⟨_, q, _⟩ | ⟨q, he⟩
    · cases q
    · rw [List.getElem?_set_ne q]
      exact r.va j e he
  · rcases at_ he with ⟨q, q', hl⟩ | ⟨q, he⟩
    · subst q; cases q'
      exact ⟨a, vs, List.getElem?_set_self (by rw [← r.len]; exact hl), h1, h2, h3, h4, h5⟩
    · rw [List.getElem?_set_ne q]
      exact r.og j es he
  · rcases at_ he with ⟨_, q, _⟩ | ⟨q, he⟩
    · cases q
    · rw [List.getElem?_set_ne q]
      exact r.ti j kk he
  · rcases at_ he with ⟨_, q, _⟩ | ⟨q, he⟩
    · cases q
    · rw [List.getElem?_set_ne q]
      exact r.sc j ns he
  · rcases at_ g1 with ⟨q, _, hl⟩ | ⟨q, g1⟩
    · rcases at_ g2 with ⟨q2, _, _⟩ | ⟨q2, g2⟩
      · rw [← q, ← q2]
      · subst q
        rw [List.getElem?_set_self (by rw [← r.len]; exact hl)] at g3
        rw [List.getElem?_set_ne q2] at g4
        have e : a = b := by
          have := Option.some.inj (Option.some.inj g3)
          injection this
        subst e
        exact absurd g4 (hn k fs (Ne.symm q2) g2)
    · rcases at_ g2 with ⟨q2, _, hl⟩ | ⟨q2, g2⟩
      · subst q2
        rw [List.getElem?_set_self (by rw [← r.len]; exact hl)] at g4
        rw [List.getElem?_set_ne q] at g3
        have e : a = b := by
          have := Option.some.inj (Option.some.inj g4)
          injection this
        subst e
        exact absurd g3 (hn j es (Ne.symm q) g1)
      · rw [List.getElem?_set_ne q] at g3
        rw [List.getElem?_set_ne q2] at g4
        exact r.di j k es fs b g1 g2 g3 g4
theorem R.putO {i : Nat} {a : Addr} {vs : List V} {ds : List DD} (r : R K B F0 M T env σ H F) (h1 : H a = some (.lst vs)) (h2 : F a = none) (h3 : B a = none) (h4 : ¬ T a) (h5 : RpAll K F vs ds)
    (hn : ∀ (j : Nat) es, j ≠ i → env[j]? = some (.og es) → σ[j]? ≠ some (some (.ref a))) (hl : ∀ (j : Nat) φ, env[j]? = some (.ln φ) → a ∉ φ.A) : R K B F0 M T (env.set i (.ow ds)) (σ.set i (some (.ref a))) H F := r.putG h1 h2 h3 h4 (.lst h5) hn hl
/-- the settled part at the entry moved to what is settled now, and back -/
theorem R.base (r : R K B F0 M T env σ H F) : R K B F M T env σ H F := ⟨⟨r.sub, Sub.refl F, fun a o h => .inl h, r.keep, r.tw, r.mt⟩, r.len, r.va, r.og, r.ti, r.sc, r.di, r.ln⟩
theorem Gd.back {F1 H1 : Hp} {T1 : Tws K} (g : Gd B F0 M T1 H1 F1) (r : Gd B F1 M T H F) : Gd B F0 M T H F := ⟨r.sub, g.f0.trans r.f0, fun a o h => by
  rcases r.new a o h with z | z
  · exact g.new a o z
  · exact .inr z, r.keep, r.tw, r.mt⟩
theorem R.back {F1 H1 : Hp} {T1 : Tws K} (g : Gd B F0 M T1 H1 F1) (r : R K B F1 M T env σ H F) : R K B F0 M T env σ H F := ⟨g.back r.toGd, r.len, r.va, r.og, r.ti, r.sc, r.di, r.ln⟩
end

/-! ### what readings do on data -/
abbrev AEx := AE → (DD → Prop) → Prop
abbrev AOx := AE → (List DD → Prop) → Prop
abbrev ATx := AE → (Bool → Prop) → Prop
structure AEnds where
  nx : AE → Prop
  rt : DD → Prop
  bk : AE → Prop := fun _ => False
  ct : AE → Prop := fun _ => False
  /-- a new list handed back -/
  rtO : List DD → Prop := fun _ => False
  /-- a datum handed back, with what the slots know then -/
  rtE : DD → AE → Prop := fun _ _ => False
abbrev ASx := AEnds → AE → Prop
def SimE (K : KW) (t : TE) (α : AEx) : Prop := ∀ B F0 M T env σ H F, R K B F0 M T env σ H F → ∀ P, α env P → ∀ Q : VK, (∀ v d H' F', Stp T H F H' F' → Rp K F' v d → P d → Q v H') → t σ H Q
/-- a new list, not settled -/
def SimO (K : KW) (t : TE) (α : AOx) : Prop := ∀ B F0 M T env σ H F, R K B F0 M T env σ H F → ∀ P, α env P → ∀ Q : VK, (∀ a vs ds H' F', Stp T H F H' F' → H' a = some (.lst vs) → F' a = none → H a = none → RpAll K F' vs ds → P ds → Q (.ref a) H') → t σ H Q
def SimT (K : KW) (t : TT) (α : ATx) : Prop := ∀ B F0 M T env σ H F, R K B F0 M T env σ H F → ∀ P, α env P → ∀ Q : Bool → Hp → Prop, (∀ b H' F', Stp T H F H' F' → P b → Q b H') → t σ H Q
def SimD (K : KW) (t : TA) (α : AOx) : Prop := ∀ B F0 M T env σ H F, R K B F0 M T env σ H F → ∀ P, α env P → ∀ Q : List V → Hp → Prop, (∀ vs ds H' F', Stp T H F H' F' → RpAll K F' vs ds → P ds → Q vs H') → t σ H Q
inductive Arg (K : KW) (T : Tws K) (F : Hp) : V → Sl → Prop
  | va {v d} : Rp K F v d → Arg K T F v (.va d)
  | ty {a k} : T a → T.kd a = k → Arg K T F (.ref a) (.ty k)
  | sc {a ns} : SqL K F a (ns.map V.int) → Arg K T F (.ref a) (.sc ns)
theorem Arg.sub {K : KW} {T : Tws K} {F H : Hp} {v : V} {s : Sl} (e : Sub F H) : Arg K T F v s → Arg K T H v s
  | .va h => .va (Rp.sub e _ h)
  | .ty t e => .ty t e
  | .sc h => .sc (e.seqL h)
def SimA (K : KW) (t : TA) (α : AE → (AE → Prop) → Prop) : Prop := ∀ B F0 M T env σ H F, R K B F0 M T env σ H F → ∀ P, α env P → ∀ Q : List V → Hp → Prop, (∀ vs as H' F', Stp T H F H' F' → Paired (Arg K T F') vs as → P as → Q vs H') → t σ H Q
structure Lk (K : KW) (B F0 : Hp) (M : Tws K) (A : AEnds) (D : Ends) : Prop where
  nx : ∀ T env σ H F, R K B F0 M T env σ H F → A.nx env → D.nx σ H
  rt : ∀ T v d H F, Gd B F0 M T H F → Rp K F v d → A.rt d → D.rt v H
  bk : ∀ T env σ H F, R K B F0 M T env σ H F → A.bk env → D.bk σ H
  ct : ∀ T env σ H F, R K B F0 M T env σ H F → A.ct env → D.ct σ H
  rtO : ∀ T a ds H F, Gd B F0 M T H F → Rp K F (.ref a) (.list ds) → B a = none → A.rtO ds → D.rt (.ref a) H
  rtE : ∀ T v d env σ H F, R K B F0 M T env σ H F → Rp K F v d → A.rtE d env → D.rt v H
def SimS (K : KW) (t : TS) (a : ASx) : Prop := ∀ B F0 M T env σ H F, R K B F0 M T env σ H F → ∀ A D, Lk K B F0 M A D → a A env → t D σ H
/-- a target -/
def SimG (K : KW) (g : TG) (γ : DD → AE → (AE → Prop) → Prop) : Prop := ∀ B F0 M T env σ H F, R K B F0 M T env σ H F → ∀ v d, Rp K F v d → ∀ P, γ d env P → ∀ Q : L2.St → Hp → Prop, (∀ env' σ' H' F', Stp T H F H' F' → R K B F0 M T env' σ' H' F' → P env' → Q σ' H') → g v σ H Q
def SimGs (K : KW) (g : TGs) (γ : List DD → AE → (AE → Prop) → Prop) : Prop := ∀ B F0 M T env σ H F, R K B F0 M T env σ H F → ∀ vs ds, RpAll K F vs ds → ∀ P, γ ds env P → ∀ Q : L2.St → Hp → Prop, (∀ env' σ' H' F', Stp T H F H' F' → R K B F0 M T env' σ' H' F' → P env' → Q σ' H') → g vs σ H Q

structure JE (X : Cx) (e : Expr) (α : AEx) : Prop where ex : ∃ t, PE X e t ∧ SimE (kw X) t α
structure JO (X : Cx) (e : Expr) (α : AOx) : Prop where ex : ∃ t, PE X e t ∧ SimO (kw X) t α
structure JT (X : Cx) (e : Expr) (α : ATx) : Prop where ex : ∃ t, PT X e t ∧ SimT (kw X) t α
structure JW (X : Cx) (e : Expr) (α : ATx) : Prop where ex : ∃ t, PW X e t ∧ SimT (kw X) t α
structure JD (X : Cx) (es : List Expr) (α : AOx) : Prop where ex : ∃ t, PA X es t ∧ SimD (kw X) t α
structure JA (X : Cx) (es : List Expr) (α : AE → (AE → Prop) → Prop) : Prop where ex : ∃ t, PA X es t ∧ SimA (kw X) t α
structure JS (X : Cx) (s : Stmt) (a : ASx) : Prop where ex : ∃ t, PS X s t ∧ SimS (kw X) t a
structure JSs (X : Cx) (s : List Stmt) (a : ASx) : Prop where ex : ∃ t, PSs X s t ∧ SimS (kw X) t a
structure JG (X : Cx) (e : Expr) (γ : DD → AE → (AE → Prop) → Prop) : Prop where ex : ∃ g, PG X e g ∧ SimG (kw X) g γ
structure JGs (X : Cx) (e : List Expr) (γ : List DD → AE → (AE → Prop) → Prop) : Prop where ex : ∃ g, PGs X e g ∧ SimGs (kw X) g γ

/-- operations by values -/
def SimR (K : KW) (r : R2) (ρ : DD → DD → (DD → Prop) → Prop) : Prop := ∀ (T : Tws K) (H F : Hp) x y dx dy, Bs T H F → Rp K F x dx → Rp K F y dy → ∀ P, ρ dx dy P → ∀ Q : VK, (∀ v d H' F', Stp T H F H' F' → Rp K F' v d → P d → Q v H') → r x y H Q
def SimRO (K : KW) (r : R2) (ρ : DD → DD → (List DD → Prop) → Prop) : Prop := ∀ (T : Tws K) (H F : Hp) x y dx dy, Bs T H F → Rp K F x dx → Rp K F y dy → ∀ P, ρ dx dy P → ∀ Q : VK, (∀ a vs ds H' F', Stp T H F H' F' → H' a = some (.lst vs) → F' a = none → H a = none → RpAll K F' vs ds → P ds → Q (.ref a) H') → r x y H Q
def SimC (K : KW) (r : List V → Hp → VK → Prop) (ρ : List DD → (DD → Prop) → Prop) : Prop := ∀ (T : Tws K) (H F : Hp) vs ds, Bs T H F → RpAll K F vs ds → ∀ P, ρ ds P → ∀ Q : VK, (∀ v d H' F', Stp T H F H' F' → Rp K F' v d → P d → Q v H') → r vs H Q
def SimCO (K : KW) (r : List V → Hp → VK → Prop) (ρ : List DD → (List DD → Prop) → Prop) : Prop := ∀ (T : Tws K) (H F : Hp) vs ds, Bs T H F → RpAll K F vs ds → ∀ P, ρ ds P → ∀ Q : VK, (∀ a vs ds H' F', Stp T H F H' F' → H' a = some (.lst vs) → F' a = none → H a = none → RpAll K F' vs ds → P ds → Q (.ref a) H') → r vs H Q

/-! ### expressions -/
section
variable {X : Cx} {e a b c : Expr} {es : List Expr} {pos : Pos} {α β γ : AEx} {τ υ : ATx}
def aV (i : Nat) : AEx := fun env P => ∃ d, env[i]? = some (.va d) ∧ P d
def aC (d : DD) : AEx := fun _ P => P d
theorem jv (i : Nat) {x : Str} {pos : Pos} (hN : X.N[i]? = some x := by rfl) (hv : Vis X.env.scope x := by first | exact Or.inl rfl | exact Or.inr (Or.inl rfl) | exact Or.inr (Or.inr rfl)) (hd : (x == ("__debug__" : Str)) = false := by decide)
    (hcd : (x == ("__classdict__" : Str)) = false := by decide) : JE X (.Name x pos) (aV i) := ⟨_, pe_var hN hv hd hcd, fun B F0 M T env σ H F r P h Q q => by
  obtain ⟨d, e, h⟩ := h
  obtain ⟨v, e1, h1⟩ := r.va i d e
  exact ⟨v, e1, q v d H F (.refl r.bs) h1 h⟩⟩
theorem sim_c {K : KW} {v : V} {d : DD} (h : ∀ F, Rp K F v d) : SimE K (tC v) (aC d) := fun B F0 M T env σ H F r P p Q q => q v d H F (.refl r.bs) (h F) p
theorem j_int {i j} : JE X (.Constant (.int i) j pos) (aC (.int i)) := ⟨_, pe_int, sim_c fun _ => .int i⟩
theorem j_bl {b j} : JE X (.Constant (.bool b) j pos) (aC (.bool b)) := ⟨_, pe_bl, sim_c fun _ => .bl b⟩
theorem j_non {j} : JE X (.Constant .none j pos) (aC .none) := ⟨_, pe_non, sim_c fun _ => .non⟩
theorem j_str {x j} : JE X (.Constant (.str x) j pos) (aC (.str x)) := ⟨_, pe_str, sim_c fun _ => .str x⟩
/-- a new list, settled at once -/
theorem SimO.se {K : KW} {t : TE} {α : AOx} (h : SimO K t α) : SimE K t (fun env P => α env fun ds => P (.list ds)) := fun B F0 M T env σ H F r P p Q q =>
  h B F0 M T env σ H F r _ p Q fun a vs ds H' F' s h1 h2 h3 h4 p' => q (.ref a) (.list ds) H' (upd F' a (.lst vs)) (s.fz h3 h1 h2) (.lst upd_same (RpAll.sub (sub_upd h2) _ h4)) p'
def aO (α : AOx) : AEx := fun env P => α env fun ds => P (.list ds)
theorem JO.je {α : AOx} (h : JO X e α) : JE X e (aO α) := by
  obtain ⟨t, h1, h2⟩ := h.ex
  exact ⟨t, h1, h2.se⟩
def aB (ρ : DD → DD → (DD → Prop) → Prop) (α β : AEx) : AEx := fun env P => α env fun x => β env fun y => ρ x y P
def aBO (ρ : DD → DD → (List DD → Prop) → Prop) (α β : AEx) : AOx := fun env P => α env fun x => β env fun y => ρ x y P
theorem sim_op {K : KW} {r : R2} {ρ : DD → DD → (DD → Prop) → Prop} {ta tb : TE} (hr : SimR K r ρ) (ha : SimE K ta α) (hb : SimE K tb β) : SimE K (tOp r ta tb) (aB ρ α β) := fun B F0 M T env σ H F R0 P p Q q =>
  ha B F0 M T env σ H F R0 _ p _ fun v d H1 F1 s1 d1 p1 => hb B F0 M T env σ H1 F1 (R0.step s1) _ p1 _ fun w e H2 F2 s2 d2 p2 =>
    hr T H2 F2 v w d e ((R0.step s1).step s2).bs (Rp.sub s2.ext _ d1) d2 _ p2 Q fun z f H3 F3 s3 d3 p3 => q z f H3 F3 ((s1.trans s2).trans s3) d3 p3
theorem sim_opO {K : KW} {r : R2} {ρ : DD → DD → (List DD → Prop) → Prop} {ta tb : TE} (hr : SimRO K r ρ) (ha : SimE K ta α) (hb : SimE K tb β) : SimO K (tOp r ta tb) (aBO ρ α β) := fun B F0 M T env σ H F R0 P p Q q =>
  ha B F0 M T env σ H F R0 _ p _ fun v d H1 F1 s1 d1 p1 => hb B F0 M T env σ H1 F1 (R0.step s1) _ p1 _ fun w e H2 F2 s2 d2 p2 =>
    hr T H2 F2 v w d e ((R0.step s1).step s2).bs (Rp.sub s2.ext _ d1) d2 _ p2 Q fun z vs ds H3 F3 s3 h1 h2 h3 d3 p3 => q z vs ds H3 F3 ((s1.trans s2).trans s3) h1 h2 (s1.dom (s2.dom h3)) d3 p3
theorem j_op {op : Operator} {r : R2} {ρ : DD → DD → (DD → Prop) → Prop} (ho : OpR X (binaryOp op) r) (hr : SimR (kw X) r ρ) (ha : JE X a α) (hb : JE X b β) : JE X (.BinOp a op b pos) (aB ρ α β) := by
  obtain ⟨ta, a1, a2⟩ := ha.ex
  obtain ⟨tb, b1, b2⟩ := hb.ex
  exact ⟨_, pe_op ho a1 b1, sim_op hr a2 b2⟩
theorem j_opO {op : Operator} {r : R2} {ρ : DD → DD → (List DD → Prop) → Prop} (ho : OpR X (binaryOp op) r) (hr : SimRO (kw X) r ρ) (ha : JE X a α) (hb : JE X b β) : JO X (.BinOp a op b pos) (aBO ρ α β) := by
  obtain ⟨ta, a1, a2⟩ := ha.ex
  obtain ⟨tb, b1, b2⟩ := hb.ex
  exact ⟨_, pe_op ho a1 b1, sim_opO hr a2 b2⟩
theorem j_cmp {op : CmpOp} {r : R2} {ρ : DD → DD → (DD → Prop) → Prop} (ho : OpR X (compareOp op) r) (hr : SimR (kw X) r ρ) (ha : JE X a α) (hb : JE X b β) (hm : behindInMarks op b = false) : JE X (.Compare a [op] [b] pos) (aB ρ α β) := by
  obtain ⟨ta, a1, a2⟩ := ha.ex
  obtain ⟨tb, b1, b2⟩ := hb.ex
  exact ⟨_, pe_cmpR ho a1 b1 hm, sim_op hr a2 b2⟩
def aT (α : AEx) : ATx := fun env P => α env fun x => ∃ k, x = .bool k ∧ P k
theorem sim_test {K : KW} {te : TE} (h : SimE K te α) : SimT K (tTest te) (aT α) := fun B F0 M T env σ H F R0 P p Q q =>
  h B F0 M T env σ H F R0 _ p _ fun v d H1 F1 s1 d1 p1 => by
    obtain ⟨k, e, p1⟩ := p1
    subst e
    cases d1
    exact ⟨k, rfl, q k H1 F1 s1 p1⟩
theorem jt_cmp {op : CmpOp} {r : R2} {ρ : DD → DD → (DD → Prop) → Prop} (ho : OpR X (compareOp op) r) (hr : SimR (kw X) r ρ) (ha : JE X a α) (hb : JE X b β) (hm : behindInMarks op b = false) : JT X (.Compare a [op] [b] pos) (aT (aB ρ α β)) := by
  obtain ⟨ta, a1, a2⟩ := ha.ex
  obtain ⟨tb, b1, b2⟩ := hb.ex
  exact ⟨_, pt_cmpR ho a1 b1 hm, sim_test (sim_op hr a2 b2)⟩
/-- an expression whose value is a bool, as a test -/
theorem jt_val (h : JE X e α) (he : ∀ whole, isTrue e X.env whole = (do let v ← whole; standAt e.pos; holding [v] (truthy v)) := by intro _; rfl) : JT X e (aT α) := by
  obtain ⟨t, h1, h2⟩ := h.ex
  exact ⟨_, pt_val h1 he, sim_test h2⟩
def aAnd (τ υ : ATx) : ATx := fun env P => τ env fun k => (k = true → υ env P) ∧ (k = false → P false)
def aOr (τ υ : ATx) : ATx := fun env P => τ env fun k => (k = true → P true) ∧ (k = false → υ env P)
def aNot (τ : ATx) : ATx := fun env P => τ env fun k => P (!k)
theorem sim_and {K : KW} {t u : TT} (h1 : SimT K t τ) (h2 : SimT K u υ) : SimT K (tAnd t u) (aAnd τ υ) := fun B F0 M T env σ H F R0 P p Q q =>
  h1 B F0 M T env σ H F R0 _ p _ fun k H1 F1 s1 p1 => by
    cases k with
    | true => exact (if_pos rfl).mpr (h2 B F0 M T env σ H1 F1 (R0.step s1) _ (p1.1 rfl) Q fun b H2 F2 s2 p2 => q b H2 F2 (s1.trans s2) p2)
    | false => exact (if_neg Bool.false_ne_true).mpr (q false H1 F1 s1 (p1.2 rfl))
theorem sim_or {K : KW} {t u : TT} (h1 : SimT K t τ) (h2 : SimT K u υ) : SimT K (tOr t u) (aOr τ υ) := fun B F0 M T env σ H F R0 P p Q q =>
  h1 B F0 M T env σ H F R0 _ p _ fun k H1 F1 s1 p1 => by
    cases k with
    | true => exact (if_pos rfl).mpr (q true H1 F1 s1 (p1.1 rfl))
    | false => exact (if_neg Bool.false_ne_true).mpr (h2 B F0 M T env σ H1 F1 (R0.step s1) _ (p1.2 rfl) Q fun b H2 F2 s2 p2 => q b H2 F2 (s1.trans s2) p2)
theorem jw_and1 {p : Pos} (h : JT X a τ) : JW X (.BoolOp .And [a] p) τ := by
  obtain ⟨t, h1, h2⟩ := h.ex
  exact ⟨_, pw_and1 h1, h2⟩
theorem jw_or1 {p : Pos} (h : JT X a τ) : JW X (.BoolOp .Or [a] p) τ := by
  obtain ⟨t, h1, h2⟩ := h.ex
  exact ⟨_, pw_or1 h1, h2⟩
theorem jw_and {p : Pos} (h : JT X a τ) (g : JW X (.BoolOp .And (b :: es) p) υ) : JW X (.BoolOp .And (a :: b :: es) p) (aAnd τ υ) := by
  obtain ⟨t, h1, h2⟩ := h.ex
  obtain ⟨u, g1, g2⟩ := g.ex
  exact ⟨_, pw_and h1 g1, sim_and h2 g2⟩
theorem jw_or {p : Pos} (h : JT X a τ) (g : JW X (.BoolOp .Or (b :: es) p) υ) : JW X (.BoolOp .Or (a :: b :: es) p) (aOr τ υ) := by
  obtain ⟨t, h1, h2⟩ := h.ex
  obtain ⟨u, g1, g2⟩ := g.ex
  exact ⟨_, pw_or h1 g1, sim_or h2 g2⟩
theorem JW.t (h : JW X e τ) : JT X e τ := by
  obtain ⟨t, h1, h2⟩ := h.ex
  exact ⟨_, h1.pt, h2⟩
theorem jt_not {p : Pos} (h : JT X a τ) : JT X (.UnaryOp .Not a p) (aNot τ) := by
  obtain ⟨t, h1, h2⟩ := h.ex
  exact ⟨_, pt_not h1, fun B F0 M T env σ H F R0 P p Q q => h2 B F0 M T env σ H F R0 _ p _ fun k H1 F1 s1 p1 => q (!k) H1 F1 s1 p1⟩
def aAndV (α β : AEx) : AEx := fun env P => α env fun x => ∃ k, x = .bool k ∧ (k = true → β env P) ∧ (k = false → P (.bool false))
def aOrV (α β : AEx) : AEx := fun env P => α env fun x => ∃ k, x = .bool k ∧ (k = true → P (.bool true)) ∧ (k = false → β env P)
def aNotV (α : AEx) : AEx := fun env P => α env fun x => ∃ k, x = .bool k ∧ P (.bool (!k))
theorem je_one {op} {p : Pos} (h : JE X a α) : JE X (.BoolOp op [a] p) α := by
  obtain ⟨t, h1, h2⟩ := h.ex
  exact ⟨_, pe_one h1, h2⟩
theorem je_and {p : Pos} (h : JE X a α) (g : JE X (.BoolOp .And (b :: es) p) β) : JE X (.BoolOp .And (a :: b :: es) p) (aAndV α β) := by
  obtain ⟨t, h1, h2⟩ := h.ex
  obtain ⟨u, g1, g2⟩ := g.ex
  refine ⟨_, pe_and h1 g1, fun B F0 M T env σ H F R0 P p Q q => h2 B F0 M T env σ H F R0 _ p _ fun v d H1 F1 s1 d1 p1 => ?_⟩
  obtain ⟨k, e, p1, p2⟩ := p1
  subst e
  cases d1
  refine ⟨k, rfl, ?_⟩
  cases k with
  | true => exact (if_pos rfl).mpr (g2 B F0 M T env σ H1 F1 (R0.step s1) _ (p1 rfl) Q fun b d H2 F2 s2 d2 p2 => q b d H2 F2 (s1.trans s2) d2 p2)
  | false => exact (if_neg Bool.false_ne_true).mpr (q _ _ H1 F1 s1 (.bl false) (p2 rfl))
theorem je_or {p : Pos} (h : JE X a α) (g : JE X (.BoolOp .Or (b :: es) p) β) : JE X (.BoolOp .Or (a :: b :: es) p) (aOrV α β) := by
  obtain ⟨t, h1, h2⟩ := h.ex
  obtain ⟨u, g1, g2⟩ := g.ex
  refine ⟨_, pe_or h1 g1, fun B F0 M T env σ H F R0 P p Q q => h2 B F0 M T env σ H F R0 _ p _ fun v d H1 F1 s1 d1 p1 => ?_⟩
  obtain ⟨k, e, p1, p2⟩ := p1
  subst e
  cases d1
  refine ⟨k, rfl, ?_⟩
  cases k with
  | true => exact (if_pos rfl).mpr (q _ _ H1 F1 s1 (.bl true) (p1 rfl))
  | false => exact (if_neg Bool.false_ne_true).mpr (g2 B F0 M T env σ H1 F1 (R0.step s1) _ (p2 rfl) Q fun b d H2 F2 s2 d2 p2 => q b d H2 F2 (s1.trans s2) d2 p2)
theorem je_not {p : Pos} (h : JE X a α) : JE X (.UnaryOp .Not a p) (aNotV α) := by
  obtain ⟨t, h1, h2⟩ := h.ex
  refine ⟨_, pe_not h1, fun B F0 M T env σ H F R0 P p Q q => h2 B F0 M T env σ H F R0 _ p _ fun v d H1 F1 s1 d1 p1 => ?_⟩
  obtain ⟨k, e, p1⟩ := p1
  subst e
  cases d1
  exact ⟨k, rfl, q _ _ H1 F1 s1 (.bl _) p1⟩
def aIf (τ : ATx) (α β : AEx) : AEx := fun env P => τ env fun k => (k = true → α env P) ∧ (k = false → β env P)
theorem je_if {p : Pos} (h : JT X c τ) (ha : JE X a α) (hb : JE X b β) : JE X (.IfExp c a b p) (aIf τ α β) := by
  obtain ⟨t, h1, h2⟩ := h.ex
  obtain ⟨ta, a1, a2⟩ := ha.ex
  obtain ⟨tb, b1, b2⟩ := hb.ex
  refine ⟨_, pe_ifExp h1 a1 b1, fun B F0 M T env σ H F R0 P p Q q => h2 B F0 M T env σ H F R0 _ p _ fun k H1 F1 s1 p1 => ?_⟩
  cases k with
  | true => exact (if_pos rfl).mpr (a2 B F0 M T env σ H1 F1 (R0.step s1) _ (p1.1 rfl) Q fun b d H2 F2 s2 d2 p2 => q b d H2 F2 (s1.trans s2) d2 p2)
  | false => exact (if_neg Bool.false_ne_true).mpr (b2 B F0 M T env σ H1 F1 (R0.step s1) _ (p1.2 rfl) Q fun b d H2 F2 s2 d2 p2 => q b d H2 F2 (s1.trans s2) d2 p2)
/-- a op1 b op2 c -/
def aChain (ρ ρ' : DD → DD → (DD → Prop) → Prop) (α β γ : AEx) : AEx := fun env P => α env fun x => β env fun y => ρ x y fun z => ∃ k, z = .bool k ∧ (k = true → γ env fun w => ρ' y w P) ∧ (k = false → P (.bool false))

/-! ### argument lists, displays -/
def dNil : AOx := fun _ P => P []
def dCons (α : AEx) (δ : AOx) : AOx := fun env P => α env fun x => δ env fun xs => P (x :: xs)
theorem jd_nil : JD X [] dNil := ⟨_, pa_nil, fun B F0 M T env σ H F R0 P p Q q => q [] [] H F (.refl R0.bs) .nil p⟩
theorem jd_cons {δ : AOx} (h : JE X e α) (g : JD X es δ) (hs : starEach (e :: es) X.env = (false, eval e X.env) :: starEach es X.env := by rfl) : JD X (e :: es) (dCons α δ) := by
  obtain ⟨t, h1, h2⟩ := h.ex
  obtain ⟨u, g1, g2⟩ := g.ex
  exact ⟨_, pa_cons h1 g1 hs, fun B F0 M T env σ H F R0 P p Q q => h2 B F0 M T env σ H F R0 _ p _ fun v d H1 F1 s1 d1 p1 => g2 B F0 M T env σ H1 F1 (R0.step s1) _ p1 _ fun vs ds H2 F2 s2 d2 p2 =>
    q (v :: vs) (d :: ds) H2 F2 (s1.trans s2) (.cons (Rp.sub s2.ext _ d1) d2) p2⟩
def gNilA : AE → (AE → Prop) → Prop := fun _ P => P []
def gConsA (α : AEx) (δ : AE → (AE → Prop) → Prop) : AE → (AE → Prop) → Prop := fun env P => α env fun x => δ env fun xs => P (.va x :: xs)
def gTownA (i : Nat) (δ : AE → (AE → Prop) → Prop) : AE → (AE → Prop) → Prop := fun env P => env[i]? = some .tw ∧ δ env fun xs => P (.tw :: xs)
theorem ja_nil : JA X [] gNilA := ⟨_, pa_nil, fun B F0 M T env σ H F R0 P p Q q => q [] [] H F (.refl R0.bs) .nil p⟩
theorem paired_sub {K : KW} {T : Tws K} {F H : Hp} (e : Sub F H) : ∀ {vs : List V} {as : AE}, Paired (Arg K T F) vs as → Paired (Arg K T H) vs as
  | _, _, .nil => .nil
  | _, _, .cons r t => .cons (r.sub e) (paired_sub e t)
theorem ja_cons {δ : AE → (AE → Prop) → Prop} (h : JE X e α) (g : JA X es δ) (hs : starEach (e :: es) X.env = (false, eval e X.env) :: starEach es X.env := by rfl) : JA X (e :: es) (gConsA α δ) := by
  obtain ⟨t, h1, h2⟩ := h.ex
  obtain ⟨u, g1, g2⟩ := g.ex
  exact ⟨_, pa_cons h1 g1 hs, fun B F0 M T env σ H F R0 P p Q q => h2 B F0 M T env σ H F R0 _ p _ fun v d H1 F1 s1 d1 p1 => g2 B F0 M T env σ H1 F1 (R0.step s1) _ p1 _ fun vs ds H2 F2 s2 d2 p2 =>
    q (v :: vs) (.va d :: ds) H2 F2 (s1.trans s2) (.cons (.va (Rp.sub s2.ext _ d1)) d2) p2⟩
theorem ja_town {x : Str} (i : Nat) {δ : AE → (AE → Prop) → Prop} (g : JA X es δ) (hN : X.N[i]? = some x := by rfl) (hv : Vis X.env.scope x := by first | exact Or.inl rfl | exact Or.inr (Or.inl rfl) | exact Or.inr (Or.inr rfl)) (hd : (x == ("__debug__" : Str)) = false := by decide)
    (hcd : (x == ("__classdict__" : Str)) = false := by decide) (hs : starEach (.Name x pos :: es) X.env = (false, eval (.Name x pos) X.env) :: starEach es X.env := by rfl) : JA X (.Name x pos :: es) (gTownA i δ) := by
  obtain ⟨u, g1, g2⟩ := g.ex
  refine ⟨_, pa_cons (pe_var hN hv hd hcd) g1 hs, fun B F0 M T env σ H F R0 P p Q q => ?_⟩
  obtain ⟨a, ta, kt, e⟩ := R0.ti i _ p.1
  exact ⟨_, e, g2 B F0 M T env σ H F R0 _ p.2 _ fun vs ds H2 F2 s2 d2 p2 => q (.ref a :: vs) (.tw :: ds) H2 F2 s2 (.cons (.ty ta kt) d2) p2⟩
def gScA (i : Nat) (δ : AE → (AE → Prop) → Prop) : AE → (AE → Prop) → Prop := fun env P => ∃ ns, env[i]? = some (.sc ns) ∧ δ env fun xs => P (.sc ns :: xs)
theorem ja_sc {x : Str} (i : Nat) {δ : AE → (AE → Prop) → Prop} (g : JA X es δ) (hN : X.N[i]? = some x := by rfl) (hv : Vis X.env.scope x := by first | exact Or.inl rfl | exact Or.inr (Or.inl rfl) | exact Or.inr (Or.inr rfl)) (hd : (x == ("__debug__" : Str)) = false := by decide)
    (hcd : (x == ("__classdict__" : Str)) = false := by decide) (hs : starEach (.Name x pos :: es) X.env = (false, eval (.Name x pos) X.env) :: starEach es X.env := by rfl) : JA X (.Name x pos :: es) (gScA i δ) := by
  obtain ⟨u, g1, g2⟩ := g.ex
  refine ⟨_, pa_cons (pe_var hN hv hd hcd) g1 hs, fun B F0 M T env σ H F R0 P p Q q => ?_⟩
  obtain ⟨ns, p1, p2⟩ := p
  obtain ⟨a, e, ha⟩ := R0.sc i ns p1
  exact ⟨_, e, g2 B F0 M T env σ H F R0 _ p2 _ fun vs ds H2 F2 s2 d2 p2 => q (.ref a :: vs) (.sc ns :: ds) H2 F2 s2 (.cons (.sc (s2.ext.seqL ha)) d2) p2⟩
def lineD : Nat := 100000
theorem line_le {n : Nat} (h : n ≤ lineD) : n ≤ sizeLine := Nat.le_trans h (by decide)
theorem line_lt {n : Nat} (h : n < lineD) : n < sizeLine := Nat.lt_of_lt_of_le h (by decide)
def aTup (δ : AOx) : AEx := fun env P => δ env fun ds => ds.length ≤ lineD ∧ P (.tuple ds)
def aLst (δ : AOx) : AOx := fun env P => δ env fun ds => ds.length ≤ lineD ∧ P ds
theorem je_tup {x1} {δ : AOx} (h : JD X es δ) : JE X (.Tuple es x1 pos) (aTup δ) := by
  obtain ⟨t, h1, h2⟩ := h.ex
  exact ⟨_, pe_tup h1, fun B F0 M T env σ H F R0 P p Q q => h2 B F0 M T env σ H F R0 _ p _ fun vs ds H1 F1 s1 d1 p1 => ⟨by rw [RpAll.len d1]; exact line_le p1.1, fun p hp =>
    q (.ref p) (.tuple ds) _ (upd F1 p (.tup vs)) (s1.trans (.al (R0.step s1).bs hp)) (.tup (.inl (.inl upd_same)) (RpAll.sub (Stp.al (o := .tup vs) (R0.step s1).bs hp).ext _ d1)) p1.2⟩⟩
theorem jo_lst {δ : AOx} (h : JD X es δ) : JO X (.List es pos) (aLst δ) := by
  obtain ⟨t, h1, h2⟩ := h.ex
  exact ⟨_, pe_lst h1, fun B F0 M T env σ H F R0 P p Q q => h2 B F0 M T env σ H F R0 _ p _ fun vs ds H1 F1 s1 d1 p1 => ⟨by rw [RpAll.len d1]; exact line_le p1.1, fun p hp =>
    q p vs ds _ F1 (s1.trans (.al0 (R0.step s1).bs hp)) upd_same (by
      cases e : F1 p with
      | none => rfl
      | some o =>
        have z := s1.sub p o e
        rw [hp] at z
        cases z) (s1.dom hp) d1 p1.2⟩⟩
end
end Ab

namespace Ab
open PySem L2

/-! ### operations by values, on data -/
section
variable {K : KW}
def dI (g : Int → Int → DD) : DD → DD → (DD → Prop) → Prop := fun x y P => ∃ i j, x = .int i ∧ y = .int j ∧ P (g i j)
def dIC (C : Int → Int → Prop) (g : Int → Int → DD) : DD → DD → (DD → Prop) → Prop := fun x y P => ∃ i j, x = .int i ∧ y = .int j ∧ C i j ∧ P (g i j)
theorem sr_int {g : Int → Int → Int} : SimR K (rI0 fun i j => .int (g i j)) (dI fun i j => .int (g i j)) := fun T H F x y dx dy b hx hy P p Q q => by
  obtain ⟨i, j, rfl, rfl, p⟩ := p
  cases hx; cases hy
  exact ⟨i, j, rfl, rfl, q _ _ H F (.refl b) (.int _) p⟩
theorem sr_bl {g : Int → Int → Bool} : SimR K (rI0 fun i j => .bl (g i j)) (dI fun i j => .bool (g i j)) := fun T H F x y dx dy b hx hy P p Q q => by
  obtain ⟨i, j, rfl, rfl, p⟩ := p
  cases hx; cases hy
  exact ⟨i, j, rfl, rfl, q _ _ H F (.refl b) (.bl _) p⟩
theorem sr_intC {C : Int → Int → Prop} {g : Int → Int → Int} : SimR K (rI C fun i j => .int (g i j)) (dIC C fun i j => .int (g i j)) := fun T H F x y dx dy b hx hy P p Q q => by
  obtain ⟨i, j, rfl, rfl, c, p⟩ := p
  cases hx; cases hy
  exact ⟨i, j, rfl, rfl, c, q _ _ H F (.refl b) (.int _) p⟩
/-- x[i] -/
def dIx : DD → DD → (DD → Prop) → Prop := fun x y P => ∃ ds i d, (x = .list ds ∨ x = .tuple ds) ∧ y = .int i ∧ atI ds i = some d ∧ P d
theorem atI_data {F : Hp} {vs : List V} {ds : List DD} {i : Int} {d : DD} (h : RpAll K F vs ds) (e : atI ds i = some d) : ∃ v, atI vs i = some v ∧ Rp K F v d := by
  unfold atI at e ⊢
  rw [h.len]
  cases q : ixN ds.length i with
  | none => rw [q] at e; cases e
  | some j =>
    rw [q] at e
    exact h.get e
theorem sr_ix : SimR K (rIx K) dIx := fun T H F x y dx dy b hx hy P p Q q => by
  obtain ⟨ds, i, d, hd, rfl, e, p⟩ := p
  cases hy
  rcases hd with rfl | rfl
  · cases hx with
    | lst h1 h2 =>
      obtain ⟨v, e1, e2⟩ := atI_data h2 e
      exact .inl ⟨_, _, i, v, rfl, rfl, .inl (.inl (b.sub _ _ h1)), e1, q v d H F (.refl b) e2 p⟩
  · cases hx with
    | tup h1 h2 =>
      obtain ⟨v, e1, e2⟩ := atI_data h2 e
      exact .inr (.inl ⟨_, _, i, v, rfl, rfl, b.sub.seqT h1, e1, q v d H F (.refl b) e2 p⟩)
/-- ==, != -/
theorem lay_of {d : DD} (h : SeqAt.shaped d = true) : d.canLay0 = true := by
  unfold SeqAt.shaped at h
  rw [Bool.and_eq_true] at h
  exact h.1
def dEq : DD → DD → (DD → Prop) → Prop := fun x y P => SeqAt.shaped x = true ∧ SeqAt.shaped y = true ∧ P (.bool (PyData.eqv x y))
def dNe : DD → DD → (DD → Prop) → Prop := fun x y P => SeqAt.shaped x = true ∧ SeqAt.shaped y = true ∧ P (.bool (!PyData.eqv x y))
theorem sr_eq : SimR K (rEqD K) dEq := fun T H F x y dx dy b hx hy P p Q q =>
  ⟨dx, dy, Rp.dp _ (lay_of p.1) (Rp.sub b.sub _ hx), Rp.dp _ (lay_of p.2.1) (Rp.sub b.sub _ hy), p.1, p.2.1, q _ _ H F (.refl b) (.bl _) p.2.2⟩
theorem sr_ne : SimR K (rNeD K) dNe := fun T H F x y dx dy b hx hy P p Q q =>
  ⟨dx, dy, Rp.dp _ (lay_of p.1) (Rp.sub b.sub _ hx), Rp.dp _ (lay_of p.2.1) (Rp.sub b.sub _ hy), p.1, p.2.1, q _ _ H F (.refl b) (.bl _) p.2.2⟩
/-- is None, is not None -/
def isN : DD → Bool
  | .none => true
  | _ => false
theorem isN_of {F : Hp} {v : V} {d : DD} (h : Rp K F v d) : decide (v = .non) = isN d := by
  cases h <;> rfl
def dIs : DD → DD → (DD → Prop) → Prop := fun x y P => y = .none ∧ P (.bool (isN x))
def dIsn : DD → DD → (DD → Prop) → Prop := fun x y P => y = .none ∧ P (.bool (!isN x))
theorem sr_is : SimR K (fun x y H Q => y = .non ∧ Q (.bl (decide (x = .non))) H) dIs := fun T H F x y dx dy b hx hy P p Q q => by
  obtain ⟨rfl, p⟩ := p
  cases hy
  exact ⟨rfl, by rw [isN_of hx]; exact q _ _ H F (.refl b) (.bl _) p⟩
theorem sr_isn : SimR K (fun x y H Q => y = .non ∧ Q (.bl (!decide (x = .non))) H) dIsn := fun T H F x y dx dy b hx hy P p Q q => by
  obtain ⟨rfl, p⟩ := p
  cases hy
  exact ⟨rfl, by rw [isN_of hx]; exact q _ _ H F (.refl b) (.bl _) p⟩
/-- is True, is False, is not .. of bools -/
def dIsB : DD → DD → (DD → Prop) → Prop := fun x y P => ∃ a b : Bool, x = .bool a ∧ y = .bool b ∧ P (.bool (decide (a = b)))
def dIsnB : DD → DD → (DD → Prop) → Prop := fun x y P => ∃ a b : Bool, x = .bool a ∧ y = .bool b ∧ P (.bool (!decide (a = b)))
theorem sr_isB : SimR K rIsB dIsB := fun T H F x y dx dy b hx hy P p Q q => by
  obtain ⟨i, j, rfl, rfl, p⟩ := p
  cases hx; cases hy
  exact ⟨i, j, rfl, rfl, q _ _ H F (.refl b) (.bl _) p⟩
theorem sr_isnB : SimR K rNotB dIsnB := fun T H F x y dx dy b hx hy P p Q q => by
  obtain ⟨i, j, rfl, rfl, p⟩ := p
  cases hx; cases hy
  exact ⟨i, j, rfl, rfl, q _ _ H F (.refl b) (.bl _) p⟩
/-- in, not in: flat items -/
def flatD : DD → Bool
  | .none => true | .bool _ => true | .int _ => true | .str _ => true
  | _ => false
def toV : DD → V
  | .none => .non | .bool b => .bl b | .int i => .int i | .str x => .str x
  | _ => .non
theorem flat_of {F : Hp} {v : V} {d : DD} (h : Rp K F v d) (f : flatD d = true) : v = toV d ∧ flatV v = true := by
  cases h <;> first | exact ⟨rfl, rfl⟩ | cases f
theorem flat_all {F : Hp} : ∀ {vs : List V} {ds : List DD}, RpAll K F vs ds → ds.all flatD = true → vs = ds.map toV ∧ vs.all flatV = true
  | _, [], h, _ => by cases h; exact ⟨rfl, rfl⟩
  | _, d :: ds, h, f => by
    cases h with
    | cons a b =>
      rw [List.all_cons, Bool.and_eq_true] at f
      obtain ⟨e1, f1⟩ := flat_of a f.1
      obtain ⟨e2, f2⟩ := flat_all b f.2
      refine ⟨by rw [List.map_cons, e1, e2], by rw [List.all_cons, f1, f2]; rfl⟩
def inD (x : DD) (ds : List DD) : Bool := inV (toV x) (ds.map toV)
def dIn (neg : Bool) : DD → DD → (DD → Prop) → Prop := fun x y P => ∃ ds, (y = .list ds ∨ y = .tuple ds) ∧ flatD x = true ∧ ds.all flatD = true ∧ P (.bool (if neg then !inD x ds else inD x ds))
theorem sr_in {neg : Bool} : SimR K (rIn K neg) (dIn neg) := fun T H F x y dx dy b hx hy P p Q q => by
  obtain ⟨ds, hd, f, fa, p⟩ := p
  obtain ⟨e1, f1⟩ := flat_of hx f
  rcases hd with rfl | rfl
  · cases hy with
    | lst h1 h2 =>
      obtain ⟨e2, f2⟩ := flat_all h2 fa
      subst e1 e2
      exact ⟨_, _, rfl, .inl (.inl (.inl (b.sub _ _ h1))), f1, f2, q _ _ H F (.refl b) (.bl _) p⟩
  · cases hy with
    | tup h1 h2 =>
      obtain ⟨e2, f2⟩ := flat_all h2 fa
      subst e1 e2
      exact ⟨_, _, rfl, .inr (b.sub.seqT h1), f1, f2, q _ _ H F (.refl b) (.bl _) p⟩
/-- list + list, list * int, tuple + tuple -/
def dCat : DD → DD → (List DD → Prop) → Prop := fun x y P => ∃ xs ys, x = .list xs ∧ y = .list ys ∧ xs.length + ys.length ≤ lineD ∧ P (xs ++ ys)
theorem fnone {T : Tws K} {H F : Hp} {p : Addr} (b : Bs T H F) (h : H p = none) : F p = none := by
  cases e : F p with
  | none => rfl
  | some o => have z := b.sub p o e; rw [h] at z; cases z
theorem sr_cat : SimRO K rCat dCat := fun T H F x y dx dy b hx hy P p Q q => by
  obtain ⟨xs, ys, rfl, rfl, l, p⟩ := p
  cases hx with
  | lst h1 h2 =>
    cases hy with
    | lst g1 g2 =>
      refine ⟨_, _, _, _, rfl, rfl, b.sub _ _ h1, b.sub _ _ g1, by rw [h2.len, g2.len]; exact line_le l, fun p' hp => ?_⟩
      exact q p' _ _ _ F (.al0 b hp) upd_same (fnone b hp) hp (h2.app g2) p
def dRep : DD → DD → (List DD → Prop) → Prop := fun x y P => ∃ xs n, x = .list xs ∧ y = .int n ∧ -1000000 ≤ n ∧ n ≤ 1000000 ∧ xs.length * n.toNat ≤ lineD ∧ P (List.replicate n.toNat xs).flatten
theorem sr_rep : SimRO K rRep dRep := fun T H F x y dx dy b hx hy P p Q q => by
  obtain ⟨xs, n, rfl, rfl, l1, l2, l, p⟩ := p
  cases hy
  cases hx with
  | lst h1 h2 =>
    refine ⟨_, n, _, rfl, rfl, b.sub _ _ h1, by omega, by omega, by rw [h2.len]; exact line_le l, fun p' hp => ?_⟩
    exact q p' _ _ _ F (.al0 b hp) upd_same (fnone b hp) hp (h2.rep _) p
def dCatT : DD → DD → (DD → Prop) → Prop := fun x y P => ∃ xs ys, x = .tuple xs ∧ y = .tuple ys ∧ xs.length + ys.length ≤ lineD ∧ P (.tuple (xs ++ ys))
theorem nil_of {F : Hp} {vs : List V} {ds : List DD} (h : RpAll K F vs ds) : (vs = [] → ds = []) := fun e => by
  subst e; cases h; rfl
theorem sr_catT : SimR K (rCatA K) dCatT := fun T H F x y dx dy b hx hy P p Q q => by
  obtain ⟨xs, ys, rfl, rfl, l, p⟩ := p
  have hx0 := hx
  have hy0 := hy
  cases hx with
  | tup h1 h2 =>
    cases hy with
    | tup g1 g2 =>
      refine ⟨_, _, _, _, rfl, rfl, b.sub.seqT h1, b.sub.seqT g1, by rw [h2.len, g2.len]; exact line_le l, fun e => ?_, fun e e2 => ?_, fun e e2 p' hp => ?_⟩
      · have := nil_of h2 e
        subst this
        exact q _ _ H F (.refl b) hy0 p
      · have := nil_of g2 e2
        subst this
        rw [List.append_nil] at p
        exact q _ _ H F (.refl b) hx0 p
      · exact q (.ref p') _ _ _ (.al b hp) (.tup (.inl (.inl upd_same)) ((RpAll.sub (Stp.al (o := .tup _) b hp).ext _ h2).app (RpAll.sub (Stp.al (o := .tup _) b hp).ext _ g2))) p
end

/-! ### the same as judgements -/
section
variable {X : Cx} {e a b c : Expr} {es : List Expr} {pos : Pos} {α β γ : AEx} {τ υ : ATx} {δ : AOx}
theorem j_add (ha : JE X a α) (hb : JE X b β) : JE X (.BinOp a .Add b pos) (aB (dI fun i j => .int (i + j)) α β) := j_op op_add sr_int ha hb
theorem j_sub (ha : JE X a α) (hb : JE X b β) : JE X (.BinOp a .Sub b pos) (aB (dI fun i j => .int (i - j)) α β) := j_op op_sub sr_int ha hb
theorem j_mul (ha : JE X a α) (hb : JE X b β) : JE X (.BinOp a .Mult b pos) (aB (dIC CMul fun i j => .int (i * j)) α β) := j_op op_mul sr_intC ha hb
theorem j_mod (ha : JE X a α) (hb : JE X b β) : JE X (.BinOp a .Mod b pos) (aB (dIC (fun _ j => 0 < j) fun i j => .int (i % j)) α β) := j_op op_mod sr_intC ha hb
theorem j_fdiv (ha : JE X a α) (hb : JE X b β) : JE X (.BinOp a .FloorDiv b pos) (aB (dIC CDiv fun i j => .int (i / j)) α β) := j_op op_fdiv sr_intC ha hb
theorem j_pow (ha : JE X a α) (hb : JE X b β) : JE X (.BinOp a .Pow b pos) (aB (dIC CPow fun i j => .int (i ^ j.toNat)) α β) := j_op op_pow sr_intC ha hb
theorem j_band (ha : JE X a α) (hb : JE X b β) : JE X (.BinOp a .BitAnd b pos) (aB (dI fun i j => .int (Builtin.bitAnd i j)) α β) := j_op op_and sr_int ha hb
theorem j_shr (ha : JE X a α) (hb : JE X b β) : JE X (.BinOp a .RShift b pos) (aB (dIC (fun _ j => 0 ≤ j) fun i j => .int (i / 2 ^ j.toNat)) α β) := j_op op_shr sr_intC ha hb
theorem j_cat (ha : JE X a α) (hb : JE X b β) : JO X (.BinOp a .Add b pos) (aBO dCat α β) := j_opO op_cat sr_cat ha hb
theorem j_rep (ha : JE X a α) (hb : JE X b β) : JO X (.BinOp a .Mult b pos) (aBO dRep α β) := j_opO op_rep sr_rep ha hb
theorem j_catT (ha : JE X a α) (hb : JE X b β) : JE X (.BinOp a .Add b pos) (aB dCatT α β) := j_op op_catA sr_catT ha hb
theorem j_ix (ha : JE X a α) (hb : JE X b β) (hs : PlainIx b := by intro _ _; rfl) : JE X (.Subscript a b pos) (aB dIx α β) := by
  obtain ⟨ta, a1, a2⟩ := ha.ex
  obtain ⟨tb, b1, b2⟩ := hb.ex
  exact ⟨_, pe_ix ix_seq a1 b1 hs, sim_op sr_ix a2 b2⟩
theorem j_lt (ha : JE X a α) (hb : JE X b β) : JE X (.Compare a [.Lt] [b] pos) (aB (dI fun i j => .bool (decide (i < j))) α β) := j_cmp op_lt sr_bl ha hb (nomark _)
theorem j_le (ha : JE X a α) (hb : JE X b β) : JE X (.Compare a [.LtE] [b] pos) (aB (dI fun i j => .bool (decide (i ≤ j))) α β) := j_cmp op_le sr_bl ha hb (nomark _)
theorem j_gt (ha : JE X a α) (hb : JE X b β) : JE X (.Compare a [.Gt] [b] pos) (aB (dI fun i j => .bool (decide (j < i))) α β) := j_cmp op_gt sr_bl ha hb (nomark _)
theorem j_ge (ha : JE X a α) (hb : JE X b β) : JE X (.Compare a [.GtE] [b] pos) (aB (dI fun i j => .bool (decide (j ≤ i))) α β) := j_cmp op_ge sr_bl ha hb (nomark _)
theorem j_eq (hu : X.A.units + 64 < cLine) (ha : JE X a α) (hb : JE X b β) : JE X (.Compare a [.Eq] [b] pos) (aB dEq α β) := j_cmp (op_eqD hu) sr_eq ha hb (nomark _)
theorem j_ne (hu : X.A.units + 64 < cLine) (ha : JE X a α) (hb : JE X b β) : JE X (.Compare a [.NotEq] [b] pos) (aB dNe α β) := j_cmp (op_neD hu) sr_ne ha hb (nomark _)
theorem j_is (ha : JE X a α) (hb : JE X b β) : JE X (.Compare a [.Is] [b] pos) (aB dIs α β) := j_cmp op_isN sr_is ha hb (nomark _)
theorem j_isn (ha : JE X a α) (hb : JE X b β) : JE X (.Compare a [.IsNot] [b] pos) (aB dIsn α β) := j_cmp op_notN sr_isn ha hb (nomark _)
theorem j_isB (ha : JE X a α) (hb : JE X b β) : JE X (.Compare a [.Is] [b] pos) (aB dIsB α β) := j_cmp op_isBl sr_isB ha hb (nomark _)
theorem j_isnB (ha : JE X a α) (hb : JE X b β) : JE X (.Compare a [.IsNot] [b] pos) (aB dIsnB α β) := j_cmp op_notBl sr_isnB ha hb (nomark _)
theorem j_in (ha : JE X a α) (hb : JE X b β) (hm : behindInMarks .In b = false := by rfl) : JE X (.Compare a [.In] [b] pos) (aB (dIn false) α β) := j_cmp op_in_seq sr_in ha hb hm
theorem j_notin (ha : JE X a α) (hb : JE X b β) (hm : behindInMarks .NotIn b = false := by rfl) : JE X (.Compare a [.NotIn] [b] pos) (aB (dIn true) α β) := j_cmp op_notIn_seq sr_in ha hb hm
/-! comparisons as tests -/
theorem jt_lt (ha : JE X a α) (hb : JE X b β) : JT X (.Compare a [.Lt] [b] pos) (aT (aB (dI fun i j => .bool (decide (i < j))) α β)) := jt_cmp op_lt sr_bl ha hb (nomark _)
theorem jt_le (ha : JE X a α) (hb : JE X b β) : JT X (.Compare a [.LtE] [b] pos) (aT (aB (dI fun i j => .bool (decide (i ≤ j))) α β)) := jt_cmp op_le sr_bl ha hb (nomark _)
theorem jt_gt (ha : JE X a α) (hb : JE X b β) : JT X (.Compare a [.Gt] [b] pos) (aT (aB (dI fun i j => .bool (decide (j < i))) α β)) := jt_cmp op_gt sr_bl ha hb (nomark _)
theorem jt_ge (ha : JE X a α) (hb : JE X b β) : JT X (.Compare a [.GtE] [b] pos) (aT (aB (dI fun i j => .bool (decide (j ≤ i))) α β)) := jt_cmp op_ge sr_bl ha hb (nomark _)
theorem jt_is (ha : JE X a α) (hb : JE X b β) : JT X (.Compare a [.Is] [b] pos) (aT (aB dIs α β)) := jt_cmp op_isN sr_is ha hb (nomark _)
theorem jt_isn (ha : JE X a α) (hb : JE X b β) : JT X (.Compare a [.IsNot] [b] pos) (aT (aB dIsn α β)) := jt_cmp op_notN sr_isn ha hb (nomark _)
theorem jt_isB (ha : JE X a α) (hb : JE X b β) : JT X (.Compare a [.Is] [b] pos) (aT (aB dIsB α β)) := jt_cmp op_isBl sr_isB ha hb (nomark _)
theorem jt_isnB (ha : JE X a α) (hb : JE X b β) : JT X (.Compare a [.IsNot] [b] pos) (aT (aB dIsnB α β)) := jt_cmp op_notBl sr_isnB ha hb (nomark _)
theorem jt_eq (hu : X.A.units + 64 < cLine) (ha : JE X a α) (hb : JE X b β) : JT X (.Compare a [.Eq] [b] pos) (aT (aB dEq α β)) := jt_cmp (op_eqD hu) sr_eq ha hb (nomark _)
theorem jt_ne (hu : X.A.units + 64 < cLine) (ha : JE X a α) (hb : JE X b β) : JT X (.Compare a [.NotEq] [b] pos) (aT (aB dNe α β)) := jt_cmp (op_neD hu) sr_ne ha hb (nomark _)
theorem jt_in (ha : JE X a α) (hb : JE X b β) (hm : behindInMarks .In b = false := by rfl) : JT X (.Compare a [.In] [b] pos) (aT (aB (dIn false) α β)) := jt_cmp op_in_seq sr_in ha hb hm
theorem jt_notin (ha : JE X a α) (hb : JE X b β) (hm : behindInMarks .NotIn b = false := by rfl) : JT X (.Compare a [.NotIn] [b] pos) (aT (aB (dIn true) α β)) := jt_cmp op_notIn_seq sr_in ha hb hm
/-- a op b op c -/
theorem sim_chain {K : KW} {r r' : R2} {ρ ρ' : DD → DD → (DD → Prop) → Prop} {ta tb tc : TE} (hr : SimR K r ρ) (hr' : SimR K r' ρ') (ha : SimE K ta α) (hb : SimE K tb β) (hc : SimE K tc γ) : SimE K (tChain r r' ta tb tc) (aChain ρ ρ' α β γ) := fun B F0 M T env σ H F R0 P p Q q =>
  ha B F0 M T env σ H F R0 _ p _ fun v d H1 F1 s1 d1 p1 => hb B F0 M T env σ H1 F1 (R0.step s1) _ p1 _ fun w e H2 F2 s2 d2 p2 =>
    hr T H2 F2 v w d e ((R0.step s1).step s2).bs (Rp.sub s2.ext _ d1) d2 _ p2 _ fun z f H3 F3 s3 d3 p3 => by
      obtain ⟨k, rfl, p4, p5⟩ := p3
      cases d3
      refine ⟨k, rfl, ?_⟩
      cases k with
      | true =>
        exact (if_pos rfl).mpr (hc B F0 M T env σ H3 F3 (((R0.step s1).step s2).step s3) _ (p4 rfl) _ fun x g H4 F4 s4 d4 p4 =>
          hr' T H4 F4 w x e g ((((R0.step s1).step s2).step s3).step s4).bs (Rp.sub (s3.ext.trans s4.ext) _ d2) d4 _ p4 Q fun y h H5 F5 s5 d5 p5 => q y h H5 F5 ((((s1.trans s2).trans s3).trans s4).trans s5) d5 p5)
      | false => exact (if_neg Bool.false_ne_true).mpr (q _ _ H3 F3 ((s1.trans s2).trans s3) (.bl false) (p5 rfl))
theorem j_chain {op op' : CmpOp} {r r' : R2} {ρ ρ' : DD → DD → (DD → Prop) → Prop} (ho : OpR X (compareOp op) r) (hr : SimR (kw X) r ρ) (ho' : OpR X (compareOp op') r') (hr' : SimR (kw X) r' ρ') (ha : JE X a α) (hb : JE X b β) (hc : JE X c γ)
    (hm : lastMarks [op, op'] [b, c] = false := by with_unfolding_all rfl) : JE X (.Compare a [op, op'] [b, c] pos) (aChain ρ ρ' α β γ) := by
  obtain ⟨ta, a1, a2⟩ := ha.ex
  obtain ⟨tb, b1, b2⟩ := hb.ex
  obtain ⟨tc, c1, c2⟩ := hc.ex
  exact ⟨_, pe_chain ho ho' a1 b1 c1 hm, sim_chain hr hr' a2 b2 c2⟩
end
end Ab

namespace Ab
open PySem PySem.Spec PyProof.Rows L2

/-! ### calls -/
/-- what a def promises of data: W tells for the arguments which results are to be expected -/
abbrev Wt := AE → (DD → Prop) → Prop
def spA (K : KW) (n : Nat) (W : Wt) : Sp := fun vs H Q _ => ∃ (F : Hp) (T : Tws K) (as : AE) (P : DD → Prop), Bs T H F ∧ Paired (Arg K T F) vs as ∧ as.length = n ∧ W as P ∧ ∀ v d H' F', Stp T H F H' F' → Rp K F' v d → P d → Q v H'
theorem pairedLen {α β : Type} {R : α → β → Prop} : ∀ {xs : List α} {ys : List β}, Paired R xs ys → xs.length = ys.length
  | _, _, .nil => rfl
  | _, _, .cons _ t => by rw [List.length_cons, List.length_cons, pairedLen t]
theorem spA_len {K : KW} {n : Nat} {W : Wt} : ∀ vs H Q E, spA K n W vs H Q E → vs.length = n := fun vs H Q E h => by
  obtain ⟨F, T, as, P, _, h2, h3, _⟩ := h
  rw [← h3]
  exact pairedLen h2
/-- a def of the text that keeps the promise W, by its name -/
structure Cl (P : Program) (w : World) (K : PySem.W.Frag) (mg : Str → Option Value) (base : Heap) (k : Nat) (x : Str) (n : Nat) (W : Wt) : Prop where
  ex : ∃ (f : Addr) (fd : FuncData) (ps : List Str), FnOk P w K mg base CX0 k f fd ps (spA ⟨K, P, w⟩ n W) ∧ mg x = some (.ref f) ∧ PySem.W.keepIn K (.ref f) = true ∧ Binds K fd ps []
theorem Cl.mono {P : Program} {w : World} {K : PySem.W.Frag} {mg : Str → Option Value} {base : Heap} {k j : Nat} {x : Str} {n : Nat} {W : Wt} (h : Cl P w K mg base k x n W) (l : k ≤ j) : Cl P w K mg base j x n W := by
  obtain ⟨f, fd, ps, h1, h2⟩ := h.ex
  exact ⟨f, fd, ps, h1.mono l, h2⟩
theorem Cl.imp {P : Program} {w : World} {K : PySem.W.Frag} {mg : Str → Option Value} {base : Heap} {k : Nat} {x : Str} {n : Nat} {W W' : Wt} (h : Cl P w K mg base k x n W) (l : ∀ as P, W' as P → W as P) : Cl P w K mg base k x n W' := by
  obtain ⟨f, fd, ps, h1, h2⟩ := h.ex
  exact ⟨f, fd, ps, h1.imp fun vs H Q E ⟨F, T, as, P, a, b, c, d, e⟩ => ⟨F, T, as, P, a, b, c, l _ _ d, e⟩, h2⟩
def aCall (n : Nat) (W : Wt) (δ : AE → (AE → Prop) → Prop) : AEx := fun env P => δ env fun as => as.length = n ∧ W as P
section
variable {X : Cx} {e a b c : Expr} {es : List Expr} {pos p : Pos} {α β γ : AEx} {τ υ : ATx} {x : Str} {k n : Nat} {W : Wt}
theorem sim_call {K : KW} {δ : AE → (AE → Prop) → Prop} {ta : TA} (h : SimA K ta δ) : SimE K (tCall (spA K n W) [] E0 ta) (aCall n W δ) := fun B F0 M T env σ H F R0 P p Q q =>
  h B F0 M T env σ H F R0 _ p _ fun vs as H1 F1 s1 d1 p1 => by
    rw [List.append_nil]
    exact ⟨F1, T, as, P, (R0.step s1).bs, d1, p1.1, p1.2, fun v d H2 F2 s2 d2 p2 => q v d H2 F2 (s1.trans s2) d2 p2⟩
theorem j_call {δ : AE → (AE → Prop) → Prop} (C : Cl X.prog X.w X.K X.mg X.base k x n W) (hr : Room k X.A) (ha : JA X (e :: es) δ) (hg : Gl X x := by rfl) (hdb : (x == ("__debug__" : Str)) = false := by decide)
    (he : starEach (e :: es) X.env = (false, eval e X.env) :: starEach es X.env := by rfl) (hpl : (backTo pos (starEach es X.env)).any (·.1) = false := by rfl) : JE X (.Call (.Name x p) (e :: es) [] pos) (aCall n W δ) := by
  obtain ⟨t, h1, h2⟩ := ha.ex
  obtain ⟨f, fd, ps, g1, g2, g3, g4⟩ := C.ex
  exact ⟨_, pe_call g1 hr hg g2 g3 g4 .nil pass0 h1 hdb he hpl, sim_call h2⟩
theorem j_call0 (C : Cl X.prog X.w X.K X.mg X.base k x n W) (hr : Room k X.A) (hg : Gl X x := by rfl) (hdb : (x == ("__debug__" : Str)) = false := by decide) : JE X (.Call (.Name x p) [] [] pos) (aCall n W gNilA) := by
  obtain ⟨f, fd, ps, g1, g2, g3, g4⟩ := C.ex
  exact ⟨_, pe_call0 g1 hr hg g2 g3 g4 .nil pass0 hdb, sim_call fun B F0 M T env σ H F R0 P p Q q => q [] [] H F (.refl R0.bs) .nil p⟩
/-! built-ins -/
def aCB (ρ : List DD → (DD → Prop) → Prop) (δ : AOx) : AEx := fun env P => δ env fun ds => ρ ds P
def aCBO (ρ : List DD → (List DD → Prop) → Prop) (δ : AOx) : AOx := fun env P => δ env fun ds => ρ ds P
theorem sim_cb {K : KW} {r : List V → Hp → VK → Prop} {ρ : List DD → (DD → Prop) → Prop} {δ : AOx} {ta : TA} (hr : SimC K r ρ) (h : SimD K ta δ) : SimE K (tCB r ta) (aCB ρ δ) := fun B F0 M T env σ H F R0 P p Q q =>
  h B F0 M T env σ H F R0 _ p _ fun vs ds H1 F1 s1 d1 p1 => hr T H1 F1 vs ds (R0.step s1).bs d1 _ p1 Q fun v d H2 F2 s2 d2 p2 => q v d H2 F2 (s1.trans s2) d2 p2
theorem sim_cbO {K : KW} {r : List V → Hp → VK → Prop} {ρ : List DD → (List DD → Prop) → Prop} {δ : AOx} {ta : TA} (hr : SimCO K r ρ) (h : SimD K ta δ) : SimO K (tCB r ta) (aCBO ρ δ) := fun B F0 M T env σ H F R0 P p Q q =>
  h B F0 M T env σ H F R0 _ p _ fun vs ds H1 F1 s1 d1 p1 => hr T H1 F1 vs ds (R0.step s1).bs d1 _ p1 Q fun a vs d H2 F2 s2 h1 h2 h3 d2 p2 => q a vs d H2 F2 (s1.trans s2) h1 h2 (s1.dom h3) d2 p2
theorem j_bi {id : String} {r : List V → Hp → VK → Prop} {ρ : List DD → (DD → Prop) → Prop} {δ : AOx} (hc : CallR X (.builtin id) r) (hr : SimC (kw X) r ρ) (hm : X.mg x = none) (hv : bootBuiltins x = some (.builtin id)) (ha : JD X (e :: es) δ) (hg : Gl X x := by rfl) (hn : x ≠ "__name__" := by decide) (hdb : (x == ("__debug__" : Str)) = false := by decide)
    (he : starEach (e :: es) X.env = (false, eval e X.env) :: starEach es X.env := by rfl) (hpl : (backTo pos (starEach es X.env)).any (·.1) = false := by rfl) : JE X (.Call (.Name x p) (e :: es) [] pos) (aCB ρ δ) := by
  obtain ⟨t, h1, h2⟩ := ha.ex
  exact ⟨_, pe_callB hc hg hm hv h1 hn hdb he hpl, sim_cb hr h2⟩
theorem j_biO {id : String} {r : List V → Hp → VK → Prop} {ρ : List DD → (List DD → Prop) → Prop} {δ : AOx} (hc : CallR X (.builtin id) r) (hr : SimCO (kw X) r ρ) (hm : X.mg x = none) (hv : bootBuiltins x = some (.builtin id)) (ha : JD X (e :: es) δ) (hg : Gl X x := by rfl) (hn : x ≠ "__name__" := by decide) (hdb : (x == ("__debug__" : Str)) = false := by decide)
    (he : starEach (e :: es) X.env = (false, eval e X.env) :: starEach es X.env := by rfl) (hpl : (backTo pos (starEach es X.env)).any (·.1) = false := by rfl) : JO X (.Call (.Name x p) (e :: es) [] pos) (aCBO ρ δ) := by
  obtain ⟨t, h1, h2⟩ := ha.ex
  exact ⟨_, pe_callB hc hg hm hv h1 hn hdb he hpl, sim_cbO hr h2⟩
theorem j_ty {id : String} {r : List V → Hp → VK → Prop} {ρ : List DD → (DD → Prop) → Prop} {δ : AOx} (hc : CallR X (.type id) r) (hr : SimC (kw X) r ρ) (hm : X.mg x = none) (hv : bootBuiltins x = some (.type id)) (ha : JD X (e :: es) δ) (hg : Gl X x := by rfl) (hn : x ≠ "__name__" := by decide) (hdb : (x == ("__debug__" : Str)) = false := by decide)
    (he : starEach (e :: es) X.env = (false, eval e X.env) :: starEach es X.env := by rfl) (hpl : (backTo pos (starEach es X.env)).any (·.1) = false := by rfl) : JE X (.Call (.Name x p) (e :: es) [] pos) (aCB ρ δ) := by
  obtain ⟨t, h1, h2⟩ := ha.ex
  exact ⟨_, pe_callTy hc hg hm hv h1 hn hdb he hpl, sim_cb hr h2⟩
theorem j_tyO {id : String} {r : List V → Hp → VK → Prop} {ρ : List DD → (List DD → Prop) → Prop} {δ : AOx} (hc : CallR X (.type id) r) (hr : SimCO (kw X) r ρ) (hm : X.mg x = none) (hv : bootBuiltins x = some (.type id)) (ha : JD X (e :: es) δ) (hg : Gl X x := by rfl) (hn : x ≠ "__name__" := by decide) (hdb : (x == ("__debug__" : Str)) = false := by decide)
    (he : starEach (e :: es) X.env = (false, eval e X.env) :: starEach es X.env := by rfl) (hpl : (backTo pos (starEach es X.env)).any (·.1) = false := by rfl) : JO X (.Call (.Name x p) (e :: es) [] pos) (aCBO ρ δ) := by
  obtain ⟨t, h1, h2⟩ := ha.ex
  exact ⟨_, pe_callTy hc hg hm hv h1 hn hdb he hpl, sim_cbO hr h2⟩
end
/-! what the built-ins do -/
section
variable {K : KW} {X : Cx}
theorem one_of {F : Hp} {vs : List V} {d : DD} (h : RpAll K F vs [d]) : ∃ v, vs = [v] ∧ Rp K F v d := by
  cases h with
  | cons a b => cases b; exact ⟨_, rfl, a⟩
theorem two_of {F : Hp} {vs : List V} {d e : DD} (h : RpAll K F vs [d, e]) : ∃ v w, vs = [v, w] ∧ Rp K F v d ∧ Rp K F w e := by
  cases h with
  | cons a b =>
    obtain ⟨w, rfl, c⟩ := one_of b
    exact ⟨_, w, rfl, a, c⟩
def dLen : List DD → (DD → Prop) → Prop := fun ds P => ∃ xs, (ds = [.list xs] ∨ ds = [.tuple xs]) ∧ P (.int xs.length)
theorem sc_len : SimC K (fun xs H Q => ∃ p ys, xs = [.ref p] ∧ (SqL K H p ys ∨ SqT K H p ys) ∧ Q (.int ys.length) H) dLen := fun T H F vs ds b hd P p Q q => by
  obtain ⟨xs, h, p⟩ := p
  rcases h with rfl | rfl
  · obtain ⟨v, rfl, h⟩ := one_of hd
    cases h with
    | lst h1 h2 => exact ⟨_, _, rfl, .inl (.inl (.inl (b.sub _ _ h1))), by rw [h2.len]; exact q _ _ H F (.refl b) (.int _) p⟩
  · obtain ⟨v, rfl, h⟩ := one_of hd
    cases h with
    | tup h1 h2 => exact ⟨_, _, rfl, .inr (b.sub.seqT h1), by rw [h2.len]; exact q _ _ H F (.refl b) (.int _) p⟩
def dMin2 : List DD → (DD → Prop) → Prop := fun ds P => ∃ i j, ds = [.int i, .int j] ∧ P (.int (if j < i then j else i))
def dMax2 : List DD → (DD → Prop) → Prop := fun ds P => ∃ i j, ds = [.int i, .int j] ∧ P (.int (if j > i then j else i))
theorem sc_min2 : SimC K (fun xs H Q => ∃ i j, xs = [.int i, .int j] ∧ Q (.int (if j < i then j else i)) H) dMin2 := fun T H F vs ds b hd P p Q q => by
  obtain ⟨i, j, rfl, p⟩ := p
  obtain ⟨v, w, rfl, h1, h2⟩ := two_of hd
  cases h1; cases h2
  exact ⟨i, j, rfl, q _ _ H F (.refl b) (.int _) p⟩
theorem sc_max2 : SimC K (fun xs H Q => ∃ i j, xs = [.int i, .int j] ∧ Q (.int (if j > i then j else i)) H) dMax2 := fun T H F vs ds b hd P p Q q => by
  obtain ⟨i, j, rfl, p⟩ := p
  obtain ⟨v, w, rfl, h1, h2⟩ := two_of hd
  cases h1; cases h2
  exact ⟨i, j, rfl, q _ _ H F (.refl b) (.int _) p⟩
theorem ints_of {F : Hp} : ∀ {vs : List V} (ns : List Int), RpAll K F vs (ns.map PyData.int) → vs = ns.map V.int
  | _, [], h => by cases h; rfl
  | _, n :: ns, h => by
    cases h with
    | cons a b => cases a; rw [ints_of ns b]; rfl
theorem bools_of {F : Hp} : ∀ {vs : List V} (ns : List Bool), RpAll K F vs (ns.map PyData.bool) → vs = ns.map V.bl
  | _, [], h => by cases h; rfl
  | _, n :: ns, h => by
    cases h with
    | cons a b => cases a; rw [bools_of ns b]; rfl
theorem of_ints {F : Hp} : ∀ (ns : List Int), RpAll K F (ns.map V.int) (ns.map PyData.int)
  | [] => .nil
  | n :: ns => .cons (.int n) (of_ints ns)
def dSum : List DD → (DD → Prop) → Prop := fun ds P => ∃ ns : List Int, ds = [.list (ns.map PyData.int)] ∧ P (.int ns.sum)
theorem sc_sum : SimC K (rSum K) dSum := fun T H F vs ds b hd P p Q q => by
  obtain ⟨ns, rfl, p⟩ := p
  obtain ⟨v, rfl, h⟩ := one_of hd
  cases h with
  | lst h1 h2 =>
    have := ints_of _ h2
    subst this
    exact ⟨_, ns, rfl, .inl (.inl (b.sub _ _ h1)), q _ _ H F (.refl b) (.int _) p⟩
/-- sum of a tuple of ints -/
def rSumT (K : KW) : List V → Hp → VK → Prop := fun vs H Q => ∃ (a : Addr) (ns : List Int), vs = [V.ref a] ∧ SqT K H a (ns.map V.int) ∧ Q (.int ns.sum) H
theorem cr_sumT (hc : X.calm = true) : CallR X (.builtin "sum") (rSumT (kw X)) := by
  intro pins s σ H xs us Q I r h
  obtain ⟨a, ns, rfl, hs, q⟩ := h
  obtain ⟨u, rfl, ru⟩ := vals1 r
  cases ru
  obtain ⟨its, rv, p, hz⟩ := I.tuple hs
  have hi : IntsAre its ns := Vals.ints rv
  obtain ⟨xs, hx⟩ := hi.allInts.items
  have hn : numsOf its.toArray.toList = ns := by rw [show its.toArray.toList = its from rfl, hi.numsOf]
  rw [hx] at p hn
  rw [nums_intItems] at hn
  refine PySem.W.ktm_sumG (I.ok.hd hc) p fun h' tk t' hk => ?_
  rw [preSum_eq, List.take_of_length_le (by simp), hn]
  exact ⟨.int ns.sum, H, I.kept (t' := tk) hk, ⟨_, rfl⟩, q⟩
def dSumT : List DD → (DD → Prop) → Prop := fun ds P => ∃ ns : List Int, ds = [.tuple (ns.map PyData.int)] ∧ P (.int ns.sum)
theorem sc_sumT : SimC K (rSumT K) dSumT := fun T H F vs ds b hd P p Q q => by
  obtain ⟨ns, rfl, p⟩ := p
  obtain ⟨v, rfl, h⟩ := one_of hd
  cases h with
  | tup h1 h2 =>
    have := ints_of _ h2
    subst this
    exact ⟨_, ns, rfl, b.sub.seqT h1, q _ _ H F (.refl b) (.int _) p⟩
def dAll : List DD → (DD → Prop) → Prop := fun ds P => ∃ ns : List Bool, ds = [.list (ns.map PyData.bool)] ∧ P (.bool (ns.all id))
def dAny : List DD → (DD → Prop) → Prop := fun ds P => ∃ ns : List Bool, ds = [.list (ns.map PyData.bool)] ∧ P (.bool (ns.any id))
theorem sc_all : SimC K (rAll K) dAll := fun T H F vs ds b hd P p Q q => by
  obtain ⟨ns, rfl, p⟩ := p
  obtain ⟨v, rfl, h⟩ := one_of hd
  cases h with
  | lst h1 h2 =>
    have := bools_of _ h2
    subst this
    exact ⟨_, ns, rfl, .inl (.inl (b.sub _ _ h1)), q _ _ H F (.refl b) (.bl _) p⟩
theorem sc_any : SimC K (rAny K) dAny := fun T H F vs ds b hd P p Q q => by
  obtain ⟨ns, rfl, p⟩ := p
  obtain ⟨v, rfl, h⟩ := one_of hd
  cases h with
  | lst h1 h2 =>
    have := bools_of _ h2
    subst this
    exact ⟨_, ns, rfl, .inl (.inl (b.sub _ _ h1)), q _ _ H F (.refl b) (.bl _) p⟩
def dListO : List DD → (List DD → Prop) → Prop := fun ds P => ∃ xs, (ds = [.list xs] ∨ ds = [.tuple xs]) ∧ P xs
theorem sc_list : SimCO K (fun xs H Q => ∃ p ys, xs = [.ref p] ∧ (SqL K H p ys ∨ SqT K H p ys) ∧ ∀ l, H l = none → Q (.ref l) (upd H l (.lst ys))) dListO := fun T H F vs ds b hd P p Q q => by
  obtain ⟨xs, h, p⟩ := p
  rcases h with rfl | rfl
  · obtain ⟨v, rfl, h⟩ := one_of hd
    cases h with
    | lst h1 h2 => exact ⟨_, _, rfl, .inl (.inl (.inl (b.sub _ _ h1))), fun l hl => q l _ _ _ F (.al0 b hl) upd_same (fnone b hl) hl h2 p⟩
  · obtain ⟨v, rfl, h⟩ := one_of hd
    cases h with
    | tup h1 h2 => exact ⟨_, _, rfl, .inr (b.sub.seqT h1), fun l hl => q l _ _ _ F (.al0 b hl) upd_same (fnone b hl) hl h2 p⟩
def dTupleO : List DD → (DD → Prop) → Prop := fun ds P => ∃ xs, (ds = [.list xs] ∨ ds = [.tuple xs]) ∧ P (.tuple xs)
theorem sc_tuple : SimC K (fun xs H Q => ∃ p ys, xs = [.ref p] ∧ ((SqL K H p ys ∧ ∀ l, H l = none → Q (.ref l) (upd H l (.tup ys))) ∨ (SqT K H p ys ∧ Q (.ref p) H))) dTupleO := fun T H F vs ds b hd P p Q q => by
  obtain ⟨xs, h, p⟩ := p
  rcases h with rfl | rfl
  · obtain ⟨v, rfl, h⟩ := one_of hd
    cases h with
    | lst h1 h2 => exact ⟨_, _, rfl, .inl ⟨.inl (.inl (b.sub _ _ h1)), fun l hl => q _ _ _ _ (.al b hl) (.tup (.inl (.inl upd_same)) (RpAll.sub (Stp.al (o := .tup _) b hl).ext _ h2)) p⟩⟩
  · obtain ⟨v, rfl, h⟩ := one_of hd
    cases h with
    | tup h1 h2 => exact ⟨_, _, rfl, .inr ⟨b.sub.seqT h1, q _ _ H F (.refl b) (.tup h1 h2) p⟩⟩
end
/-! slices -/
section
variable {K : KW} {X : Cx} {e a b c : Expr} {pos p2 : Pos} {α β γ : AEx}
abbrev APx := AE → (Option Int → Prop) → Prop
def SimP (K : KW) (t : TO) (π : APx) : Prop := ∀ B F0 M T env σ H F, R K B F0 M T env σ H F → ∀ P, π env P → ∀ Q : Option Int → Hp → Prop, (∀ o H' F', Stp T H F H' F' → P o → Q o H') → t σ H Q
structure JP (X : Cx) (e : Option Expr) (π : APx) : Prop where ex : ∃ t, PO X e t ∧ SimP (kw X) t π
def aNoP : APx := fun _ P => P none
def aPt (α : AEx) : APx := fun env P => α env fun x => ∃ i, x = .int i ∧ P (some i)
theorem jp_none : JP X none aNoP := ⟨_, po_none, fun B F0 M T env σ H F R0 P p Q q => q none H F (.refl R0.bs) p⟩
theorem jp_some (h : JE X e α) : JP X (some e) (aPt α) := by
  obtain ⟨t, h1, h2⟩ := h.ex
  refine ⟨_, po_some h1, fun B F0 M T env σ H F R0 P p Q q => h2 B F0 M T env σ H F R0 _ p _ fun v d H1 F1 s1 d1 p1 => ?_⟩
  obtain ⟨i, rfl, p1⟩ := p1
  cases d1
  exact ⟨i, rfl, q _ H1 F1 s1 p1⟩
def cutD (xs : List DD) (lo hi : Option Int) : List DD := (xs.drop (HT.sIx xs.length 0 lo)).take (HT.sIx xs.length xs.length hi - HT.sIx xs.length 0 lo)
theorem cut_all {F : Hp} {vs : List V} {ds : List DD} (h : RpAll K F vs ds) (lo hi : Option Int) : RpAll K F (cutV vs lo hi) (cutD ds lo hi) := by
  unfold cutV cutD
  rw [h.len]
  exact (h.drop _).take _
def aSlL (α : AEx) (l h : APx) : AOx := fun env P => α env fun x => l env fun lo => h env fun hi => ∃ xs, x = .list xs ∧ P (cutD xs lo hi)
def aSlT (α : AEx) (l h : APx) : AEx := fun env P => α env fun x => l env fun lo => h env fun hi => ∃ xs, x = .tuple xs ∧ P (.tuple (cutD xs lo hi))
variable {lo hi : Option Expr} {l h : APx}
theorem j_slL (he : JE X e α) (hl : JP X lo l) (hh : JP X hi h) : JO X (.Subscript e (.Slice lo hi none p2) pos) (aSlL α l h) := by
  obtain ⟨t, h1, h2⟩ := he.ex
  obtain ⟨tl, l1, l2⟩ := hl.ex
  obtain ⟨th, u1, u2⟩ := hh.ex
  refine ⟨_, pe_slice sl_list h1 l1 u1, fun B F0 M T env σ H F R0 P p Q q => h2 B F0 M T env σ H F R0 _ p _ fun v d H1 F1 s1 d1 p1 => l2 B F0 M T env σ H1 F1 (R0.step s1) _ p1 _ fun o H2 F2 s2 p2 => u2 B F0 M T env σ H2 F2 ((R0.step s1).step s2) _ p2 _ fun o' H3 F3 s3 p3 => ?_⟩
  obtain ⟨xs, rfl, p3⟩ := p3
  cases d1 with
  | lst g1 g2 =>
    have b := (((R0.step s1).step s2).step s3).bs
    refine ⟨_, _, rfl, .inl (.inl (b.sub _ _ (s3.ext _ _ (s2.ext _ _ g1)))), fun p hp => ?_⟩
    exact q p _ _ _ F3 (((s1.trans s2).trans s3).trans (.al0 b hp)) upd_same (fnone b hp) (s1.dom (s2.dom (s3.dom hp))) (cut_all (RpAll.sub (s2.ext.trans s3.ext) _ g2) o o') p3
theorem cutV_whole {xs : List V} {lo hi : Option Int} (h : HT.sIx xs.length 0 lo = 0 ∧ HT.sIx xs.length xs.length hi = xs.length) : cutV xs lo hi = xs := by
  unfold cutV
  rw [h.1, h.2, List.drop_zero, Nat.sub_zero, List.take_length]
theorem j_slT (he : JE X e α) (hl : JP X lo l) (hh : JP X hi h) : JE X (.Subscript e (.Slice lo hi none p2) pos) (aSlT α l h) := by
  obtain ⟨t, h1, h2⟩ := he.ex
  obtain ⟨tl, l1, l2⟩ := hl.ex
  obtain ⟨th, u1, u2⟩ := hh.ex
  refine ⟨_, pe_slice sl_tupA h1 l1 u1, fun B F0 M T env σ H F R0 P p Q q => h2 B F0 M T env σ H F R0 _ p _ fun v d H1 F1 s1 d1 p1 => l2 B F0 M T env σ H1 F1 (R0.step s1) _ p1 _ fun o H2 F2 s2 p2 => u2 B F0 M T env σ H2 F2 ((R0.step s1).step s2) _ p2 _ fun o' H3 F3 s3 p3 => ?_⟩
  obtain ⟨xs, rfl, p3⟩ := p3
  cases d1 with
  | @tup a vs _ g1 g2 =>
    have b := (((R0.step s1).step s2).step s3).bs
    have g2' := cut_all (RpAll.sub (s2.ext.trans s3.ext) _ g2) o o'
    refine ⟨a, vs, rfl, b.sub.seqT ((s2.ext.trans s3.ext).seqT g1), fun hw => ?_, fun hw p hp => ?_⟩
    · rw [cutV_whole hw] at g2'
      exact q _ _ H3 F3 ((s1.trans s2).trans s3) (.tup ((s2.ext.trans s3.ext).seqT g1) g2') p3
    · exact q _ _ _ _ (((s1.trans s2).trans s3).trans (.al b hp)) (.tup (.inl (.inl upd_same)) (RpAll.sub (Stp.al (o := .tup _) b hp).ext _ g2')) p3
end
end Ab

namespace Ab
open PySem PySem.Spec PyProof.Rows L2

/-! ### statements -/
section
variable {X : Cx} {e a b c : Expr} {es : List Expr} {st : Stmt} {sts : List Stmt} {pos p : Pos} {α β γ : AEx} {τ υ : ATx} {x : Str} {k n : Nat} {s u : ASx}
theorem Lk.seq {K : KW} {B F0 : Hp} {M : Tws K} {A : AEnds} {D : Ends} (l : Lk K B F0 M A D) {f : AE → Prop} {g : L2.St → Hp → Prop} (h : ∀ T env σ H F, R K B F0 M T env σ H F → f env → g σ H) : Lk K B F0 M { A with nx := f } { D with nx := g } := ⟨h, l.rt, l.bk, l.ct, l.rtO, l.rtE⟩
def aSkip : ASx := fun A env => A.nx env
def aSeq (s u : ASx) : ASx := fun A env => s { A with nx := u A } env
theorem jss_nil : JSs X [] aSkip := ⟨_, pss_nil, fun B F0 M T env σ H F R0 A D l h => l.nx T env σ H F R0 h⟩
theorem jss_cons (h : JS X st s) (g : JSs X sts u) : JSs X (st :: sts) (aSeq s u) := by
  obtain ⟨t, h1, h2⟩ := h.ex
  obtain ⟨t', g1, g2⟩ := g.ex
  exact ⟨_, pss_cons h1 g1, fun B F0 M T env σ H F R0 A D l h => h2 B F0 M T env σ H F R0 _ _ (l.seq fun T env σ H F r q => g2 B F0 M T env σ H F r A D l q) h⟩
theorem jss_one (h : JS X st s) : JSs X [st] s := by
  obtain ⟨t, h1, h2⟩ := h.ex
  exact ⟨_, pss_one h1, h2⟩
theorem js_pass : JS X (.Pass pos) aSkip := ⟨_, ps_pass, fun B F0 M T env σ H F R0 A D l h => l.nx T env σ H F R0 h⟩
def aBrk : ASx := fun A env => A.bk env
def aCnt : ASx := fun A env => A.ct env
theorem js_break : JS X (.Break pos) aBrk := ⟨_, ps_break, fun B F0 M T env σ H F R0 A D l h => l.bk T env σ H F R0 h⟩
theorem js_cont : JS X (.Continue pos) aCnt := ⟨_, ps_continue, fun B F0 M T env σ H F R0 A D l h => l.ct T env σ H F R0 h⟩
def aNever : ASx := fun _ _ => False
theorem js_never : JS X st aNever := ⟨_, ps_never, fun B F0 M T env σ H F R0 A D l h => h.elim⟩
theorem jss_never : JSs X sts aNever := ⟨_, pss_never, fun B F0 M T env σ H F R0 A D l h => h.elim⟩
def aSet (i : Nat) (α : AEx) : ASx := fun A env => α env fun d => A.nx (env.set i (.va d))
theorem sim_set {K : KW} {t : TE} {i : Nat} (h : SimE K t α) : SimS K (tAsg t (gName i)) (aSet i α) := fun B F0 M T env σ H F R0 A D l p =>
  h B F0 M T env σ H F R0 _ p _ fun v d H1 F1 s1 d1 p1 => l.nx T _ _ H1 F1 ((R0.step s1).put d1 _ rfl) p1
theorem js_set (i : Nat) (nd : X.N.Nodup) (he : JE X e α) (hi : X.N[i]? = some x := by rfl) (hx : Loc X.env.scope x := by first | exact Or.inl rfl | exact Or.inr rfl) (hs : swapsWith e (some (.Name x p)) pos.line X.env = pure false := by rfl)
    (hf : X.fn x = true ∨ X.env.scope.names.lookup x = some .local := by first | exact .inl rfl | exact .inr rfl | assumption) : JS X (.Assign [.Name x p] e pos) (aSet i α) := by
  obtain ⟨t, h1, h2⟩ := he.ex
  exact ⟨_, ps_set nd hi hx h1 hs hf, sim_set h2⟩
/-- name = a new list that may change later -/
def aSetO (i : Nat) (α : AOx) : ASx := fun A env => α env fun ds => A.nx (env.set i (.ow ds))
theorem sim_setO {K : KW} {t : TE} {i : Nat} {α : AOx} (h : SimO K t α) : SimS K (tAsg t (gName i)) (aSetO i α) := fun B F0 M T env σ H F R0 A D l p =>
  h B F0 M T env σ H F R0 _ p _ fun a vs ds H1 F1 s1 h1 h2 h3 d1 p1 => l.nx T _ _ H1 F1 ((R0.step s1).putO h1 h2 (R0.toGd.dom h3) (fun t => by
    obtain ⟨_, z⟩ := Tws.has (R0.toGd.tw a t).2.1
    rw [h3] at z; cases z) d1 (fun j es _ hj hσ => by
      obtain ⟨b, vs', e1, e2, _⟩ := R0.og j es hj
      rw [hσ] at e1
      cases Option.some.inj e1
      rw [h3] at e2; cases e2) (R0.lnf h3)) p1
theorem js_setO (i : Nat) (nd : X.N.Nodup) {α : AOx} (he : JO X e α) (hi : X.N[i]? = some x := by rfl) (hx : Loc X.env.scope x := by first | exact Or.inl rfl | exact Or.inr rfl) (hs : swapsWith e (some (.Name x p)) pos.line X.env = pure false := by rfl)
    (hf : X.fn x = true ∨ X.env.scope.names.lookup x = some .local := by first | exact .inl rfl | exact .inr rfl | assumption) : JS X (.Assign [.Name x p] e pos) (aSetO i α) := by
  obtain ⟨t, h1, h2⟩ := he.ex
  exact ⟨_, ps_set nd hi hx h1 hs hf, sim_setO h2⟩
/-- a list of one's own is settled; a list [p, q] becomes a town -/
def aFrz (i : Nat) (s : ASx) : ASx := fun A env => ∃ ds, env[i]? = some (.ow ds) ∧ s A (env.set i (.va (.list ds)))
def aTwn (i : Nat) (s : ASx) : ASx := fun A env => ∃ (p : Nat) (q : Int), env[i]? = some (.ow [.int (p : Int), .int q]) ∧ s A (env.set i .tw)
theorem set_same {α : Type} : ∀ {l : List α} {i : Nat} {v : α}, l[i]? = some v → l.set i v = l
  | [], _, _, h => by simp at h
  | a :: l, 0, v, h => by cases Option.some.inj h; rfl
  | a :: l, i + 1, v, h => by
    show a :: l.set i v = a :: l
    rw [set_same (l := l) (i := i) (by simpa using h)]
theorem R.frzG {K : KW} {B F0 : Hp} {M T : Tws K} {env : AE} {σ : L2.St} {H F : Hp} {i : Nat} {ds : Og} (R0 : R K B F0 M T env σ H F) (h : env[i]? = some (.og ds)) (ok : ds.ok) : ∃ F', R K B F0 M T (env.set i (.va ds.d)) σ H F' := by
  obtain ⟨a, vs, e1, e2, e3, e4, e5, e6⟩ := R0.og i ds h
  have sb : Sub F (upd F a vs) := sub_upd e3
  have il : i < env.length := (List.getElem?_eq_some_iff.mp h).1
  have at_ : ∀ {j : Nat} {s : Sl}, (env.set i (.va ds.d))[j]? = some s → (i = j ∧ s = .va ds.d) ∨ (i ≠ j ∧ env[j]? = some s) := fun {j s} he => by
    by_cases q : i = j
    · subst q
      rw [List.getElem?_set_self il] at he
      cases he
      exact .inl ⟨rfl, rfl⟩
    · rw [List.getElem?_set_ne q] at he
      exact .inr ⟨q, he⟩
  refine ⟨upd F a vs, ⟨fun b u e => ?_, R0.f0.trans sb, fun b u e => ?_, R0.keep, fun b t => ?_, R0.mt⟩, by rw [List.length_set]; exact R0.len, fun j d he => ?_, fun j es he => ?_, fun j kk he => ?_, fun j ns he => ?_, fun j k es fs b g1 g2 g3 g4 => ?_, fun j φ he => ?_⟩
  case refine_9 =>
    obtain ⟨⟨v, h1, h2⟩, h3, hj⟩ := R0.lnE (s' := .va ds.d) (fun φ z => by cases z) (.inl fun g z => by cases z) j φ he
    refine ⟨⟨v, h1, φ.mono h2 (fun _ _ => rfl) sb⟩, fun x hx => ?_⟩
    obtain ⟨k1, k2, k3, k4, k5⟩ := h3 x hx
    have ne : x ≠ a := fun z => R0.lno h e1 j φ hj (by rw [← z]; exact hx)
    exact ⟨k1, by rw [upd_ne ne]; exact k2, k3, k4, k5⟩
  · by_cases q : b = a
    · subst q; rw [upd_same] at e; cases e; exact e2
    · rw [upd_ne q] at e; exact R0.sub b u e
  · by_cases q : b = a
    · subst q; exact .inr e4
    · rw [upd_ne q] at e; exact R0.new b u e
  · have hb : b ≠ a := fun q => e5 (q ▸ t)
    rw [upd_ne hb]; exact R0.tw b t
  · rcases at_ he with ⟨q, q2⟩ | ⟨q, he⟩
    · subst q; cases q2
      exact ⟨_, e1, e6.rp sb upd_same ok⟩
    · obtain ⟨v, h1, h2⟩ := R0.va j d he
      exact ⟨v, h1, Rp.sub sb _ h2⟩
  · rcases at_ he with ⟨_, q2⟩ | ⟨q, he⟩
    · cases q2
    · obtain ⟨c, ws, f1, f2, f3, f4, f5, f6⟩ := R0.og j es he
      have ne : c ≠ a := fun z => by
        subst z
        exact q (R0.di i j ds es c h he e1 f1)
      exact ⟨c, ws, f1, f2, by rw [upd_ne ne]; exact f3, f4, f5, f6.sub sb⟩
  · rcases at_ he with ⟨_, q2⟩ | ⟨q, he⟩
    · cases q2
    · exact R0.ti j kk he
  · rcases at_ he with ⟨_, q2⟩ | ⟨q, he⟩
    · cases q2
    · obtain ⟨c, f1, f2⟩ := R0.sc j ns he
      exact ⟨c, f1, sb.seqL f2⟩
  · rcases at_ g1 with ⟨_, q2⟩ | ⟨q, g1⟩
    · cases q2
    · rcases at_ g2 with ⟨_, q2⟩ | ⟨q', g2⟩
      · cases q2
      · exact R0.di j k es fs b g1 g2 g3 g4
theorem R.frz {K : KW} {B F0 : Hp} {M T : Tws K} {env : AE} {σ : L2.St} {H F : Hp} {i : Nat} {ds : List DD} (R0 : R K B F0 M T env σ H F) (h : env[i]? = some (.ow ds)) : ∃ F', R K B F0 M T (env.set i (.va (.list ds))) σ H F' := R0.frzG h True.intro
theorem js_frz (i : Nat) (h : JS X st s) : JS X st (aFrz i s) := by
  obtain ⟨t, h1, h2⟩ := h.ex
  refine ⟨_, h1, fun B F0 M T env σ H F R0 A D l p => ?_⟩
  obtain ⟨ds, p1, p2⟩ := p
  obtain ⟨F', r⟩ := R0.frz p1
  exact h2 B F0 M T _ σ H F' r A D l p2
theorem jss_frz (i : Nat) (h : JSs X sts s) : JSs X sts (aFrz i s) := by
  obtain ⟨t, h1, h2⟩ := h.ex
  refine ⟨_, h1, fun B F0 M T env σ H F R0 A D l p => ?_⟩
  obtain ⟨ds, p1, p2⟩ := p
  obtain ⟨F', r⟩ := R0.frz p1
  exact h2 B F0 M T _ σ H F' r A D l p2
theorem R.twn {K : KW} {B F0 : Hp} {M T : Tws K} {env : AE} {σ : L2.St} {H F : Hp} {i : Nat} {p : Nat} {q : Int} (R0 : R K B F0 M T env σ H F) (h : env[i]? = some (.ow [.int (p : Int), .int q])) : ∃ T' : Tws K, R K B F0 M T' (env.set i .tw) σ H F := by
  obtain ⟨a, vs, e1, e2, e3, e4, e5, e6⟩ := R0.ow i _ h
  have ev : vs = [V.int (p : Int), V.int q] := ints_of [(p : Int), q] e6
  subst ev
  have il : i < env.length := (List.getElem?_eq_some_iff.mp h).1
  have at_ : ∀ {j : Nat} {s : Sl}, (env.set i .tw)[j]? = some s → (i = j ∧ s = .tw) ∨ (i ≠ j ∧ env[j]? = some s) := fun {j s} he => by
    by_cases q : i = j
    · subst q
      rw [List.getElem?_set_self il] at he
      cases he
      exact .inl ⟨rfl, rfl⟩
    · rw [List.getElem?_set_ne q] at he
      exact .inr ⟨q, he⟩
  have k0 : ∀ {b : Addr}, T b → (if b = a then none else T.kd b) = T.kd b := fun {b} t => if_neg fun (q : b = a) => e5 (q ▸ t)
  refine ⟨⟨fun b => b = a ∨ T b, fun b => if b = a then none else T.kd b⟩, ⟨R0.sub, R0.f0, R0.new, R0.keep, fun b t => ?_, fun b m => ⟨.inr (R0.mt b m).1, (show KdLe (if b = a then none else T.kd b) (M.kd b) by rw [k0 (R0.mt b m).1]; exact (R0.mt b m).2)⟩⟩, by rw [List.length_set]; exact R0.len, fun j d he => ?_, fun j es he => ?_, fun j kk he => ?_, fun j ns he => ?_, fun j k es fs b g1 g2 g3 g4 => ?_, fun j φ he => ?_⟩
  case refine_7 =>
    obtain ⟨h2, h3, hj⟩ := R0.lnE (s' := .tw) (fun φ z => by cases z) (.inl fun g z => by cases z) j φ he
    refine ⟨h2, fun x hx => ?_⟩
    obtain ⟨k1, k2, k3, k4, k5⟩ := h3 x hx
    refine ⟨k1, k2, k3, fun z => ?_, k5⟩
    rcases z with z | z
    · have z : x = a := z
      exact R0.lno h e1 j φ hj (by rw [← z]; exact hx)
    · exact k4 z
  · rcases t with t | t
    · subst t; exact ⟨e3, Tws.of_town ⟨p, q, e2⟩ (if_pos rfl), .inr e4⟩
    · exact ⟨(R0.tw b t).1, Tws.kd_ok (R0.tw b t).2.1 (k0 t), (R0.tw b t).2.2⟩
  · rcases at_ he with ⟨_, q2⟩ | ⟨q, he⟩
    · cases q2
    · exact R0.va j d he
  · rcases at_ he with ⟨_, q2⟩ | ⟨q, he⟩
    · cases q2
    · obtain ⟨c, ws, f1, f2, f3, f4, f5, f6⟩ := R0.og j es he
      refine ⟨c, ws, f1, f2, f3, f4, fun z => ?_, f6⟩
      rcases z with z | z
      · subst z
        exact q (R0.di i j _ es c h he e1 f1)
      · exact f5 z
  · rcases at_ he with ⟨q, q2⟩ | ⟨q, he⟩
    · subst q; cases q2; exact ⟨a, .inl rfl, if_pos rfl, e1⟩
    · obtain ⟨c, t, f0, f⟩ := R0.ti j kk he
      exact ⟨c, .inr t, (k0 t).trans f0, f⟩
  · rcases at_ he with ⟨_, q2⟩ | ⟨q, he⟩
    · cases q2
    · exact R0.sc j ns he
  · rcases at_ g1 with ⟨_, q2⟩ | ⟨q, g1⟩
    · cases q2
    · rcases at_ g2 with ⟨_, q2⟩ | ⟨q', g2⟩
      · cases q2
      · exact R0.di j k es fs b g1 g2 g3 g4
theorem jss_twn (i : Nat) (h : JSs X sts s) : JSs X sts (aTwn i s) := by
  obtain ⟨t, h1, h2⟩ := h.ex
  refine ⟨_, h1, fun B F0 M T env σ H F R0 A D l p => ?_⟩
  obtain ⟨x, y, p1, p2⟩ := p
  obtain ⟨T', r⟩ := R0.twn p1
  exact h2 B F0 M T' _ σ H F r A D l p2
def aDrop (α : AEx) : ASx := fun A env => α env fun _ => A.nx env
theorem js_expr (he : JE X e α) (hs : swapsWith e none pos.line X.env = pure false := by rfl) : JS X (.Expr e pos) (aDrop α) := by
  obtain ⟨t, h1, h2⟩ := he.ex
  exact ⟨_, ps_expr h1 hs, fun B F0 M T env σ H F R0 A D l p => h2 B F0 M T env σ H F R0 _ p _ fun v d H1 F1 s1 d1 p1 => l.nx T env σ H1 F1 (R0.step s1) p1⟩
theorem js_doc {y : Str} {j} : JS X (.Expr (.Constant (.str y) j p) pos) aSkip := ⟨_, ps_doc, fun B F0 M T env σ H F R0 A D l h => l.nx T env σ H F R0 h⟩
/-- a list of one's own changes -/
theorem R.mutG {K : KW} {B F0 : Hp} {M T : Tws K} {env : AE} {σ : L2.St} {H F : Hp} {i : Nat} {ds es : Og} {a : Addr} {ws : HO} (R0 : R K B F0 M T env σ H F) (h : env[i]? = some (.og ds)) (ha : σ[i]? = some (some (.ref a))) (hw : OgRp K F a ws es) :
    R K B F0 M T (env.set i (.og es)) σ (upd H a ws) F := by
  obtain ⟨a', vs, e1, e2, e3, e4, e5, e6⟩ := R0.og i ds h
  rw [ha] at e1
  cases Option.some.inj e1
  have il : i < env.length := (List.getElem?_eq_some_iff.mp h).1
  have at_ : ∀ {j : Nat} {s : Sl}, (env.set i (.og es))[j]? = some s → (i = j ∧ s = .og es) ∨ (i ≠ j ∧ env[j]? = some s) := fun {j s} he => by
    by_cases q : i = j
    · subst q
      rw [List.getElem?_set_self il] at he
      cases he
      exact .inl ⟨rfl, rfl⟩
    · rw [List.getElem?_set_ne q] at he
      exact .inr ⟨q, he⟩
  refine ⟨⟨fun b u e => ?_, R0.f0, R0.new, fun b o e m => ?_, fun b t => ?_, R0.mt⟩, by rw [List.length_set]; exact R0.len, fun j d he => ?_, fun j es' he => ?_, fun j kk he => ?_, fun j ns he => ?_, fun j k es' fs b g1 g2 g3 g4 => ?_, fun j φ he => ?_⟩
  case refine_9 =>
    obtain ⟨⟨v, h1, h2⟩, h3, hj⟩ := R0.lnE (s' := .og es) (fun φ z => by cases z) (.inr ⟨_, h⟩) j φ he
    have ne : ∀ x ∈ φ.A, x ≠ a := fun x hx z => R0.lno h ha j φ hj (by rw [← z]; exact hx)
    refine ⟨⟨v, h1, φ.mono h2 (fun x hx => upd_ne (ne x hx)) fun _ _ z => z⟩, fun x hx => ?_⟩
    obtain ⟨k1, k2, k3, k4, k5⟩ := h3 x hx
    exact ⟨by rw [upd_ne (ne x hx)]; exact k1, k2, k3, k4, k5⟩
  · have : b ≠ a := fun q => by rw [q, e3] at e; cases e
    rw [upd_ne this]; exact R0.sub b u e
  · have : b ≠ a := fun q => by rw [q, e4] at e; cases e
    rw [upd_ne this]; exact R0.keep b o e m
  · have : b ≠ a := fun q => e5 (q ▸ t)
    obtain ⟨t1, t2, t3⟩ := R0.tw b t
    exact ⟨t1, Tws.mono t2 this (.inr (by rw [e2]; exact e6.mut)), t3⟩
  · rcases at_ he with ⟨_, q2⟩ | ⟨q, he⟩
    · cases q2
    · exact R0.va j d he
  · rcases at_ he with ⟨q, q2⟩ | ⟨q, he⟩
    · subst q; cases q2
      exact ⟨a, ws, ha, upd_same, e3, e4, e5, hw⟩
    · obtain ⟨c, ws', f1, f2, f3, f4, f5, f6⟩ := R0.og j es' he
      have ne : c ≠ a := fun z => by
        subst z
        exact q (R0.di i j ds es' c h he ha f1)
      exact ⟨c, ws', f1, by rw [upd_ne ne]; exact f2, f3, f4, f5, f6⟩
  · rcases at_ he with ⟨_, q2⟩ | ⟨q, he⟩
    · cases q2
    · exact R0.ti j kk he
  · rcases at_ he with ⟨_, q2⟩ | ⟨q, he⟩
    · cases q2
    · exact R0.sc j ns he
  · rcases at_ g1 with ⟨q, _⟩ | ⟨q, g1⟩
    · rcases at_ g2 with ⟨q', _⟩ | ⟨q', g2⟩
      · rw [← q, ← q']
      · subst q; exact R0.di _ _ _ _ b h g2 g3 g4
    · rcases at_ g2 with ⟨q', _⟩ | ⟨q', g2⟩
      · subst q'; exact R0.di _ _ _ _ b g1 h g3 g4
      · exact R0.di j k es' fs b g1 g2 g3 g4
/-- the own list behind a step -/
theorem R.mut {K : KW} {B F0 : Hp} {M T : Tws K} {env : AE} {σ : L2.St} {H F : Hp} {i : Nat} {ds es : List DD} {a : Addr} {ws : List V} (R0 : R K B F0 M T env σ H F) (h : env[i]? = some (.ow ds)) (ha : σ[i]? = some (some (.ref a))) (hw : RpAll K F ws es) :
    R K B F0 M T (env.set i (.ow es)) σ (upd H a (.lst ws)) F := R0.mutG h ha (.lst hw)
theorem R.owAt {K : KW} {B F0 : Hp} {M T : Tws K} {env : AE} {σ : L2.St} {H F : Hp} {i : Nat} {ds : List DD} {a : Addr} (R0 : R K B F0 M T env σ H F) (h : env[i]? = some (.ow ds)) (ha : σ[i]? = some (some (.ref a))) : ∃ vs, H a = some (.lst vs) ∧ RpAll K F vs ds := by
  obtain ⟨a', vs, e1, e2, e3, e4, e5, e6⟩ := R0.ow i ds h
  rw [ha] at e1
  cases Option.some.inj e1
  exact ⟨vs, e2, e6⟩
/-- x.append(e), x a list of one's own -/
def aApp (i : Nat) (α : AEx) : ASx := fun A env => ∃ ds, env[i]? = some (.ow ds) ∧ α env fun d => ds.length < lineD ∧ A.nx (env.set i (.ow (ds ++ [d])))
theorem js_app (i : Nat) {px apos : Pos} (he : JE X e α) (hN : X.N[i]? = some x := by rfl) (hv : Vis X.env.scope x := by first | exact Or.inl rfl | exact Or.inr (Or.inl rfl) | exact Or.inr (Or.inr rfl)) (hd : (x == ("__debug__" : Str)) = false := by decide)
    (hcd : (x == ("__classdict__" : Str)) = false := by decide) (hbase : attributeBase (.Name x px) "append" X.env (eval (.Name x px) X.env) = eval (.Name x px) X.env := by rfl)
    (hfew : ((backTo p (starEach [e] X.env)).all (fun x => !x.1) && (backToKw p (keywordEach [] X.env)).all (fun x => x.1.isSome)
      && decide ([e].length + ([] : List Keyword).length + (if ([] : List Keyword).isEmpty then 0 else 1) < 30)) = true := by rfl)
    (hline : (apos.endLine == p.line) = true := by rfl) (hs : starEach [e] X.env = (false, eval e X.env) :: starEach [] X.env := by rfl) (hplain : (backTo p (starEach [] X.env)).any (·.1) = false := by rfl)
    (hsw : swapsWith (.Call (.Attribute (.Name x px) "append" apos) [e] [] p) none pos.line X.env = pure false := by rfl) : JS X (.Expr (.Call (.Attribute (.Name x px) "append" apos) [e] [] p) pos) (aApp i α) := by
  obtain ⟨t, h1, h2⟩ := he.ex
  refine ⟨_, ps_expr (pe_bm PySem.F.plainAttrs_list PySem.F.slot_list_append PySem.F.type_list_append mt_append (pe_var hN hv hd hcd) (pa_cons h1 pa_nil hs) hbase hfew hline hs hplain) hsw, fun B F0 M T env σ H F R0 A D l p => ?_⟩
  obtain ⟨ds, p1, p2⟩ := p
  obtain ⟨a, vs, e1, e2, e3, e4, e5, e6⟩ := R0.ow i ds p1
  refine ⟨_, e1, .inl ⟨rfl, vs, .inl (.inl e2)⟩, h2 B F0 M T env σ H F R0 _ p2 _ fun v d H1 F1 s1 d1 p3 => ?_⟩
  obtain ⟨ws, f2, f6⟩ := (R0.step s1).owAt p1 e1
  exact ⟨a, ws, v, rfl, rfl, f2, by rw [f6.len]; exact line_lt p3.1, l.nx T (env.set i (.ow (ds ++ [d]))) σ _ F1 ((R0.step s1).mut p1 e1 (f6.app (.cons d1 .nil))) p3.2⟩
/-- x[j] = e; x[j] op= e, x a list of one's own -/
def aSetIx (i : Nat) (α β : AEx) : ASx := fun A env => ∃ ds, env[i]? = some (.ow ds) ∧ α env fun d => β env fun y => ∃ k j, y = .int k ∧ ixN ds.length k = some j ∧ A.nx (env.set i (.ow (ds.set j d)))
theorem js_setIx (i : Nat) {px : Pos} (he : JE X e α) (hb : JE X b β) (hN : X.N[i]? = some x := by rfl) (hv : Vis X.env.scope x := by first | exact Or.inl rfl | exact Or.inr (Or.inl rfl) | exact Or.inr (Or.inr rfl)) (hd : (x == ("__debug__" : Str)) = false := by decide)
    (hcd : (x == ("__classdict__" : Str)) = false := by decide) (ha : ∀ v, assign (.Subscript (.Name x px) b p) X.env v = (do
      let ov ← holding [v] (eval (.Name x px) X.env)
      let iv ← holding [v, ov] (eval b X.env)
      standAt p
      holding [v, ov, iv] (setItem ov iv v)
      release [v, ov, iv] []) := by intro _; rfl) (hs : swapsWithSole [.Subscript (.Name x px) b p] e pos.line X.env = pure false := by rfl) (hw : swappedStores [.Subscript (.Name x px) b p] e X.env = pure none := by rfl)
    (h1 : (assignEach [.Subscript (.Name x px) b p] X.env).map (·.2) = [assign (.Subscript (.Name x px) b p) X.env] := by rfl) : JS X (.Assign [.Subscript (.Name x px) b p] e pos) (aSetIx i α β) := by
  obtain ⟨t, g1, g2⟩ := he.ex
  obtain ⟨tb, b1, b2⟩ := hb.ex
  refine ⟨_, ps_asg g1 (pg_sub (pe_var hN hv hd hcd) b1 set_list ha) hs hw h1, fun B F0 M T env σ H F R0 A D l p => ?_⟩
  obtain ⟨ds, q1, p⟩ := p
  obtain ⟨a, _, e1, _⟩ := R0.ow i ds q1
  refine g2 B F0 M T env σ H F R0 _ p _ fun v d H1 F1 s1 d1 p1 => ?_
  refine ⟨_, e1, b2 B F0 M T env σ H1 F1 (R0.step s1) _ p1 _ fun y k H2 F2 s2 d2 p2 => ?_⟩
  obtain ⟨kk, j, rfl, q3, q4⟩ := p2
  cases d2
  have R2 := (R0.step s1).step s2
  obtain ⟨ws, f2, f6⟩ := R2.owAt q1 e1
  refine ⟨a, ws, kk, j, rfl, rfl, f2, by rw [f6.len]; exact q3, ?_⟩
  exact l.nx T _ σ _ F2 (R2.mut q1 e1 (f6.set j (Rp.sub s2.ext _ d1))) q4
end
end Ab

namespace Ab
open PySem PySem.Spec PyProof.Rows L2

section
variable {X : Cx} {e a b c : Expr} {es : List Expr} {st : Stmt} {sts sts' : List Stmt} {pos p : Pos} {α β γ : AEx} {τ υ : ATx} {x : Str} {k n : Nat} {s u : ASx}
def aRet (α : AEx) : ASx := fun A env => α env A.rt
theorem js_ret (he : JE X e α) : JS X (.Return (some e) pos) (aRet α) := by
  obtain ⟨t, h1, h2⟩ := he.ex
  exact ⟨_, ps_ret h1, fun B F0 M T env σ H F R0 A D l p => h2 B F0 M T env σ H F R0 _ p _ fun v d H1 F1 s1 d1 p1 => l.rt T v d H1 F1 (R0.step s1).toGd d1 p1⟩
def aRetN : ASx := fun A _ => A.rt .none
theorem js_retN : JS X (.Return none pos) aRetN := ⟨_, ps_retN, fun B F0 M T env σ H F R0 A D l p => l.rt T _ _ H F R0.toGd .non p⟩
def aIfS (τ : ATx) (s u : ASx) : ASx := fun A env => τ env fun k => (k = true → s A env) ∧ (k = false → u A env)
theorem js_if (hc : JT X c τ) (ha : JSs X sts s) (hb : JSs X sts' u) : JS X (.If c sts sts' pos) (aIfS τ s u) := by
  obtain ⟨t, h1, h2⟩ := hc.ex
  obtain ⟨ta, a1, a2⟩ := ha.ex
  obtain ⟨tb, b1, b2⟩ := hb.ex
  refine ⟨_, ps_if h1 a1 b1, fun B F0 M T env σ H F R0 A D l p => h2 B F0 M T env σ H F R0 _ p _ fun k H1 F1 s1 p1 => ?_⟩
  cases k with
  | true => exact (if_pos rfl).mpr (a2 B F0 M T env σ H1 F1 (R0.step s1) A D l (p1.1 rfl))
  | false => exact (if_neg Bool.false_ne_true).mpr (b2 B F0 M T env σ H1 F1 (R0.step s1) A D l (p1.2 rfl))
/-! targets -/
def tgN (i : Nat) : DD → AE → (AE → Prop) → Prop := fun d env P => P (env.set i (.va d))
theorem jg_name (i : Nat) (nd : X.N.Nodup) (hi : X.N[i]? = some x := by rfl) (hx : Loc X.env.scope x := by first | exact Or.inl rfl | exact Or.inr rfl) (hf : X.fn x = true ∨ X.env.scope.names.lookup x = some .local := by first | exact .inl rfl | exact .inr rfl | assumption) : JG X (.Name x pos) (tgN i) :=
  ⟨_, pg_name nd hi hx hf, fun B F0 M T env σ H F R0 v d h P p Q q => q _ _ H F (.refl R0.bs) (R0.put h _ rfl) p⟩
def tgsNil : List DD → AE → (AE → Prop) → Prop := fun ds env P => ds = [] ∧ P env
def tgsCons (g : DD → AE → (AE → Prop) → Prop) (h : List DD → AE → (AE → Prop) → Prop) : List DD → AE → (AE → Prop) → Prop := fun ds env P => ∃ d r, ds = d :: r ∧ g d env fun env' => h r env' P
theorem jgs_nil : JGs X [] tgsNil := ⟨_, pgs_nil, fun B F0 M T env σ H F R0 vs ds h P p Q q => by
  obtain ⟨rfl, p⟩ := p
  cases h
  exact ⟨rfl, q env σ H F (.refl R0.bs) R0 p⟩⟩
theorem jgs_cons {g : DD → AE → (AE → Prop) → Prop} {h : List DD → AE → (AE → Prop) → Prop} (h1 : JG X e g) (h2 : JGs X es h) (hs : (assignEach (e :: es) X.env).map (·.2) = assign e X.env :: (assignEach es X.env).map (·.2) := by rfl) : JGs X (e :: es) (tgsCons g h) := by
  obtain ⟨t, a1, a2⟩ := h1.ex
  obtain ⟨u, b1, b2⟩ := h2.ex
  refine ⟨_, pgs_cons a1 b1 hs, fun B F0 M T env σ H F R0 vs ds hd P p Q q => ?_⟩
  obtain ⟨d, r, rfl, p⟩ := p
  cases hd with
  | cons c1 c2 => exact ⟨_, _, rfl, a2 B F0 M T env σ H F R0 _ d c1 _ p _ fun env' σ' H' F' s1 R1 p1 => b2 B F0 M T env' σ' H' F' R1 _ r (RpAll.sub s1.ext _ c2) P p1 Q fun env2 σ2 H2 F2 s2 R2 p2 => q env2 σ2 H2 F2 (s1.trans s2) R2 p2⟩
def tgTup (n : Nat) (h : List DD → AE → (AE → Prop) → Prop) : DD → AE → (AE → Prop) → Prop := fun d env P => ∃ ds, d = .tuple ds ∧ ds.length = n ∧ h ds env P
theorem jg_tup {k : Nat} {h : List DD → AE → (AE → Prop) → Prop} (hc : X.calm = true) (h1 : JGs X es h) (hn : (assignEach es X.env).length = n := by rfl) (hst : (assignEach es X.env).findIdx? (·.1) = none := by rfl) : JG X (.Tuple es k pos) (tgTup n h) := by
  obtain ⟨t, a1, a2⟩ := h1.ex
  refine ⟨_, pg_tup hc a1 hn hst, fun B F0 M T env σ H F R0 v d hd P p Q q => ?_⟩
  obtain ⟨ds, rfl, hl, p⟩ := p
  cases hd with
  | tup g1 g2 => exact ⟨_, _, rfl, R0.sub.seqT g1, by rw [g2.len]; exact hl, a2 B F0 M T env σ H F R0 _ ds g2 P p Q q⟩
def aAsg (α : AEx) (g : DD → AE → (AE → Prop) → Prop) : ASx := fun A env => α env fun d => g d env A.nx
theorem js_asg {tg : Expr} {g : DD → AE → (AE → Prop) → Prop} (he : JE X e α) (hg : JG X tg g) (hs : swapsWithSole [tg] e pos.line X.env = pure false := by rfl) (hw : swappedStores [tg] e X.env = pure none := by rfl)
    (h1 : (assignEach [tg] X.env).map (·.2) = [assign tg X.env] := by rfl) : JS X (.Assign [tg] e pos) (aAsg α g) := by
  obtain ⟨t, a1, a2⟩ := he.ex
  obtain ⟨u, b1, b2⟩ := hg.ex
  exact ⟨_, ps_asg a1 b1 hs hw h1, fun B F0 M T env σ H F R0 A D l p => a2 B F0 M T env σ H F R0 _ p _ fun v d H1 F1 s1 d1 p1 => b2 B F0 M T env σ H1 F1 (R0.step s1) v d d1 _ p1 _ fun env' σ' H' F' _ R2 p2 => l.nx T env' σ' H' F' R2 p2⟩
/-! a, b = e1, e2; a, b, c = e1, e2, e3 (both sides written) -/
def aPar2 (i j : Nat) (δ : AOx) : ASx := fun A env => δ env fun ds => ∃ d e, ds = [d, e] ∧ A.nx ((env.set i (.va d)).set j (.va e))
theorem js_par2 (i j : Nat) {y : Str} {px py pt : Pos} {kt k2 : Nat} {pt2 : Pos} {δ : AOx} (hc : X.calm = true) (nd : X.N.Nodup) (ha : JD X [a, b] δ) (hi : X.N[i]? = some x := by rfl) (hj : X.N[j]? = some y := by rfl) (hij : i ≠ j := by decide)
    (hx : X.env.scope.names.lookup x = some .local := by rfl) (hy : X.env.scope.names.lookup y = some .local := by rfl)
    (hw : swappedStores [.Tuple [.Name x px, .Name y py] kt pt] (.Tuple [a, b] k2 pt2) X.env = pure (some [x, y]) := by rfl)
    (hs : swapsWithSole [.Tuple [.Name x px, .Name y py] kt pt] (.Tuple [a, b] k2 pt2) pos.line X.env = pure false := by rfl) : JS X (.Assign [.Tuple [.Name x px, .Name y py] kt pt] (.Tuple [a, b] k2 pt2) pos) (aPar2 i j δ) := by
  obtain ⟨t, a1, a2⟩ := ha.ex
  refine ⟨_, ps_par hc nd hi hj hij hx hy a1 hw hs, fun B F0 M T env σ H F R0 A D l p => a2 B F0 M T env σ H F R0 _ p _ fun vs ds H1 F1 s1 d1 p1 => ?_⟩
  obtain ⟨d, e, rfl, p1⟩ := p1
  obtain ⟨v, w, rfl, h1, h2⟩ := two_of d1
  exact ⟨v, w, rfl, l.nx T _ _ H1 F1 (((R0.step s1).put h1 _ rfl).put h2 _ rfl) p1⟩
theorem three_of {K : KW} {F : Hp} {vs : List V} {d e f : DD} (h : RpAll K F vs [d, e, f]) : ∃ u v w, vs = [u, v, w] ∧ Rp K F u d ∧ Rp K F v e ∧ Rp K F w f := by
  cases h with
  | cons a b =>
    obtain ⟨v, w, rfl, c, c'⟩ := two_of b
    exact ⟨_, v, w, rfl, a, c, c'⟩
def aPar3 (i j k : Nat) (δ : AOx) : ASx := fun A env => δ env fun ds => ∃ d e f, ds = [d, e, f] ∧ A.nx (((env.set i (.va d)).set j (.va e)).set k (.va f))
theorem js_par3 (i j k : Nat) {c : Expr} {y z : Str} {px py pz pt : Pos} {kt k2 : Nat} {pt2 : Pos} {δ : AOx} (hc : X.calm = true) (nd : X.N.Nodup) (ha : JD X [a, b, c] δ) (hi : X.N[i]? = some x := by rfl) (hj : X.N[j]? = some y := by rfl) (hk : X.N[k]? = some z := by rfl) (hij : i ≠ j := by decide) (hik : i ≠ k := by decide) (hjk : j ≠ k := by decide)
    (hx : X.env.scope.names.lookup x = some .local := by rfl) (hy : X.env.scope.names.lookup y = some .local := by rfl) (hz : X.env.scope.names.lookup z = some .local := by rfl)
    (hw : swappedStores [.Tuple [.Name x px, .Name y py, .Name z pz] kt pt] (.Tuple [a, b, c] k2 pt2) X.env = pure (some [x, y, z]) := by rfl)
    (hs : swapsWithSole [.Tuple [.Name x px, .Name y py, .Name z pz] kt pt] (.Tuple [a, b, c] k2 pt2) pos.line X.env = pure false := by rfl) : JS X (.Assign [.Tuple [.Name x px, .Name y py, .Name z pz] kt pt] (.Tuple [a, b, c] k2 pt2) pos) (aPar3 i j k δ) := by
  obtain ⟨t, a1, a2⟩ := ha.ex
  refine ⟨_, ps_par3 hc nd hi hj hk hij hik hjk hx hy hz a1 hw hs, fun B F0 M T env σ H F R0 A D l p => a2 B F0 M T env σ H F R0 _ p _ fun vs ds H1 F1 s1 d1 p1 => ?_⟩
  obtain ⟨d, e, f, rfl, p1⟩ := p1
  obtain ⟨u, v, w, rfl, h1, h2, h3⟩ := three_of d1
  exact ⟨u, v, w, rfl, l.nx T _ _ H1 F1 ((((R0.step s1).put h1 _ rfl).put h2 _ rfl).put h3 _ rfl) p1⟩
/-- a, b = e1, a new list that may change -/
def aPar2O (i j : Nat) (α : AEx) (β : AOx) : ASx := fun A env => α env fun d => β env fun ds => A.nx ((env.set i (.va d)).set j (.ow ds))
theorem js_par2O (i j : Nat) {y : Str} {px py pt : Pos} {kt k2 : Nat} {pt2 : Pos} {β : AOx} (hc : X.calm = true) (nd : X.N.Nodup) (ha : JE X a α) (hb : JO X b β) (hi : X.N[i]? = some x := by rfl) (hj : X.N[j]? = some y := by rfl) (hij : i ≠ j := by decide)
    (hx : X.env.scope.names.lookup x = some .local := by rfl) (hy : X.env.scope.names.lookup y = some .local := by rfl)
    (hw : swappedStores [.Tuple [.Name x px, .Name y py] kt pt] (.Tuple [a, b] k2 pt2) X.env = pure (some [x, y]) := by rfl)
    (hs : swapsWithSole [.Tuple [.Name x px, .Name y py] kt pt] (.Tuple [a, b] k2 pt2) pos.line X.env = pure false := by rfl)
    (h1 : starEach [a, b] X.env = (false, eval a X.env) :: starEach [b] X.env := by rfl) (h2 : starEach [b] X.env = (false, eval b X.env) :: starEach [] X.env := by rfl) : JS X (.Assign [.Tuple [.Name x px, .Name y py] kt pt] (.Tuple [a, b] k2 pt2) pos) (aPar2O i j α β) := by
  obtain ⟨t, a1, a2⟩ := ha.ex
  obtain ⟨u, b1, b2⟩ := hb.ex
  refine ⟨_, ps_par hc nd hi hj hij hx hy (pa_cons a1 (pa_cons b1 pa_nil h2) h1) hw hs, fun B F0 M T env σ H F R0 A D l p => a2 B F0 M T env σ H F R0 _ p _ fun v d H1 F1 s1 d1 p1 => b2 B F0 M T env σ H1 F1 (R0.step s1) _ p1 _ fun q vs ds H2 F2 s2 g1 g2 g3 d2 p2 => ?_⟩
  have R2 := (R0.step s1).step s2
  refine ⟨v, .ref q, rfl, l.nx T _ _ H2 F2 ((R2.put (Rp.sub s2.ext _ d1) _ rfl).putO g1 g2 (R0.toGd.dom (s1.dom g3)) (fun t => ?_) d2 (fun m es _ hm hσ => ?_) (lnf_set (R0.lnf (s1.dom g3)) (fun φ z => by cases z))) p2⟩
  · obtain ⟨_, z⟩ := Tws.has ((R0.step s1).toGd.tw q t).2.1
    rw [g3] at z; cases z
  · by_cases z : i = m
    · subst z
      have hl : i < env.length := by
        have := (List.getElem?_eq_some_iff.mp hm).1
        rwa [List.length_set] at this
      rw [List.getElem?_set_self hl] at hm
      cases hm
    · rw [List.getElem?_set_ne z] at hm hσ
      obtain ⟨b, vs', e1, e2, _⟩ := (R0.step s1).og m es hm
      rw [hσ] at e1
      cases Option.some.inj e1
      rw [g3] at e2; cases e2
/-! x op= e, x a datum -/
def aAug (i : Nat) (f : Int → Int → Int) (α : AEx) : ASx := fun A env => ∃ m, env[i]? = some (.va (.int m)) ∧ α env fun d => ∃ n, d = .int n ∧ A.nx (env.set i (.va (.int (f m n))))
theorem js_aug (i : Nat) {op : Operator} {f : Int → Int → Int} (ho : PIp X op (ipI f)) (nd : X.N.Nodup) (he : JE X e α) (hi : X.N[i]? = some x := by rfl) (hx : Loc X.env.scope x := by first | exact Or.inl rfl | exact Or.inr rfl)
    (hf : X.fn x = true ∨ X.env.scope.names.lookup x = some .local := by first | exact .inl rfl | exact .inr rfl | assumption) : JS X (.AugAssign (.Name x p) op e pos) (aAug i f α) := by
  obtain ⟨t, a1, a2⟩ := he.ex
  refine ⟨_, ps_aug nd hi hx a1 ho hf, fun B F0 M T env σ H F R0 A D l q => ?_⟩
  obtain ⟨m, q1, q2⟩ := q
  obtain ⟨v, e1, e2⟩ := R0.va i _ q1
  cases e2
  refine ⟨_, e1, a2 B F0 M T env σ H F R0 _ q2 _ fun v d H1 F1 s1 d1 p1 => ?_⟩
  obtain ⟨n, rfl, p1⟩ := p1
  cases d1
  exact ⟨m, n, rfl, rfl, l.nx T _ _ H1 F1 ((R0.step s1).put (.int _) _ rfl) p1⟩

/-! ### walks -/
/-- the iterator yields the data ds, whatever is made meanwhile -/
def Itm (K : KW) (F1 : Hp) (J : It) (ds : List DD) : Prop := ∀ (T : Tws K) (i : Nat) (H F : Hp), Bs T H F → Sub F1 F →
  (i < ds.length → J.go i H ∧ ∀ x H', J.yld i H x H' → ∃ F' d, ds[i]? = some d ∧ Stp T H F H' F' ∧ Rp K F' x d) ∧ (ds.length ≤ i → J.stop i H)
def SimI (K : KW) (wi : TI) (ι : AOx) : Prop := ∀ B F0 M T env σ H F, R K B F0 M T env σ H F → ∀ P, ι env P → ∀ Q : It → Hp → Prop, (∀ J ds H' F', Stp T H F H' F' → Itm K F' J ds → P ds → Q J H') → wi σ H Q
structure JI (X : Cx) (tg e : Expr) (ι : AOx) : Prop where ex : ∃ wi, PI X tg e wi ∧ SimI (kw X) wi ι
def iL (α : AEx) : AOx := fun env P => α env fun x => ∃ ds, x = .list ds ∧ P ds
def iT (α : AEx) : AOx := fun env P => α env fun x => ∃ ds, x = .tuple ds ∧ P ds
theorem ji_list {tg : Expr} (he : JE X e α) : JI X tg e (iL α) := by
  obtain ⟨t, a1, a2⟩ := he.ex
  refine ⟨_, pi_list a1, fun B F0 M T env σ H F R0 P p Q q => a2 B F0 M T env σ H F R0 _ p _ fun v d H1 F1 s1 d1 p1 => ?_⟩
  obtain ⟨ds, rfl, p1⟩ := p1
  cases d1 with
  | @lst a vs _ g1 g2 =>
    refine ⟨a, rfl, ⟨vs, .inl (.inl ((R0.step s1).sub _ _ g1))⟩, q _ ds H1 F1 s1 (fun T i H F b sb => ⟨fun hi => ?_, fun hi => ?_⟩) p1⟩
    · have hS : SqL (kw X) H a vs := .inl (.inl (b.sub _ _ (sb _ _ g1)))
      have hg : ds[i]? = some ds[i] := List.getElem?_eq_getElem hi
      obtain ⟨v, hv, rv⟩ := g2.get hg
      refine ⟨⟨vs, v, hS, hv⟩, fun x H' y => ?_⟩
      obtain ⟨rfl, y⟩ := y
      have := y vs hS
      rw [hv] at this
      cases Option.some.inj this
      exact ⟨F, _, hg, .refl b, Rp.sub sb _ rv⟩
    · exact ⟨vs, .inl (.inl (b.sub _ _ (sb _ _ g1))), by rw [g2.len]; exact hi⟩
theorem ji_tup {tg : Expr} (he : JE X e α) : JI X tg e (iT α) := by
  obtain ⟨t, a1, a2⟩ := he.ex
  refine ⟨_, pi_tup a1, fun B F0 M T env σ H F R0 P p Q q => a2 B F0 M T env σ H F R0 _ p _ fun v d H1 F1 s1 d1 p1 => ?_⟩
  obtain ⟨ds, rfl, p1⟩ := p1
  cases d1 with
  | @tup a vs _ g1 g2 =>
    refine ⟨a, rfl, ⟨vs, (R0.step s1).sub.seqT g1⟩, q _ ds H1 F1 s1 (fun T i H F b sb => ⟨fun hi => ?_, fun hi => ?_⟩) p1⟩
    · have hS : SqT (kw X) H a vs := b.sub.seqT (sb.seqT g1)
      have hg : ds[i]? = some ds[i] := List.getElem?_eq_getElem hi
      obtain ⟨v, hv, rv⟩ := g2.get hg
      refine ⟨⟨vs, v, hS, hv⟩, fun x H' y => ?_⟩
      obtain ⟨rfl, y⟩ := y
      have := y vs hS
      rw [hv] at this
      cases Option.some.inj this
      exact ⟨F, _, hg, .refl b, Rp.sub sb _ rv⟩
    · exact ⟨vs, b.sub.seqT (sb.seqT g1), by rw [g2.len]; exact hi⟩
def iR1 (δ : AOx) : AOx := fun env P => δ env fun ds => ∃ n : Int, ds = [.int n] ∧ -1000000 ≤ n ∧ n ≤ 1000000 ∧ P ((List.range n.toNat).map fun (i : Nat) => PyData.int (i : Int))
theorem ji_range1 {tg : Expr} {δ : AOx} (hm : X.mg "range" = none) (ha : JD X [a] δ) (hg : Gl X "range" := by rfl) (hs : starEach [a] X.env = [(false, eval a X.env)] := by rfl) : JI X tg (.Call (.Name "range" p) [a] [] pos) (iR1 δ) := by
  obtain ⟨t, a1, a2⟩ := ha.ex
  refine ⟨_, pi_range1 hg hm a1 hs, fun B F0 M T env σ H F R0 P p Q q => a2 B F0 M T env σ H F R0 _ p _ fun vs ds H1 F1 s1 d1 p1 => ?_⟩
  obtain ⟨n, rfl, n1, n2, p1⟩ := p1
  obtain ⟨v, rfl, h⟩ := one_of d1
  cases h
  refine ⟨n, rfl, by omega, by omega, q _ _ H1 F1 s1 (fun T i H F b sb => ⟨fun hi => ?_, fun hi => ?_⟩) p1⟩
  · rw [List.length_map, List.length_range] at hi
    refine ⟨hi, fun x H' y => ?_⟩
    obtain ⟨rfl, rfl⟩ := y
    refine ⟨F, .int (i : Int), ?_, .refl b, ?_⟩
    · rw [List.getElem?_map, List.getElem?_range hi]; rfl
    · rw [Int.zero_add]; exact .int _
  · rw [List.length_map, List.length_range] at hi
    exact hi
def enumD (ds : List DD) : List DD := (List.range ds.length).zip ds |>.map fun p => .tuple [.int (p.1 : Int), p.2]
theorem enumD_get {ds : List DD} {i : Nat} {d : DD} (h : ds[i]? = some d) : (enumD ds)[i]? = some (.tuple [.int (i : Int), d]) := by
  have hi := (List.getElem?_eq_some_iff.mp h).1
  unfold enumD
  rw [List.getElem?_map, (List.getElem?_zip_eq_some (z := (i, d))).mpr ⟨List.getElem?_range hi, h⟩]
  rfl
theorem enumD_len (ds : List DD) : (enumD ds).length = ds.length := by
  unfold enumD
  rw [List.length_map, List.length_zip, List.length_range, Nat.min_self]
def iE (δ : AOx) : AOx := fun env P => δ env fun ds => ∃ xs, ds = [.list xs] ∧ P (enumD xs)
theorem ji_enum {elts : List Expr} {kk : Nat} {tpos : Pos} {δ : AOx} (hm : X.mg "enumerate" = none) (ha : JD X [a] δ) (hg : Gl X "enumerate" := by rfl) (hs : starEach [a] X.env = [(false, eval a X.env)] := by rfl) : JI X (.Tuple elts kk tpos) (.Call (.Name "enumerate" p) [a] [] pos) (iE δ) := by
  obtain ⟨t, a1, a2⟩ := ha.ex
  refine ⟨_, pi_enum hg hm a1 hs, fun B F0 M T env σ H F R0 P p Q q => a2 B F0 M T env σ H F R0 _ p _ fun vs ds H1 F1 s1 d1 p1 => ?_⟩
  obtain ⟨xs, rfl, p1⟩ := p1
  obtain ⟨v, rfl, h⟩ := one_of d1
  cases h with
  | @lst a vs _ g1 g2 =>
    refine ⟨a, vs, rfl, .inl (.inl ((R0.step s1).sub _ _ g1)), q _ _ H1 F1 s1 (fun T i H F b sb => ⟨fun hi => ?_, fun hi => ?_⟩) p1⟩
    · rw [enumD_len] at hi
      have hS : SqL (kw X) H a vs := .inl (.inl (b.sub _ _ (sb _ _ g1)))
      have hgx : xs[i]? = some xs[i] := List.getElem?_eq_getElem hi
      obtain ⟨v, hv, rv⟩ := g2.get hgx
      refine ⟨⟨vs, v, hS, hv⟩, fun x H' y => ?_⟩
      obtain ⟨Tt, z, rfl, nT, rfl, y⟩ := y
      have := y vs hS
      rw [hv] at this
      cases Option.some.inj this
      refine ⟨_, _, enumD_get hgx, .al b nT, .tup (.inl (.inl upd_same)) (.cons (.int _) (.cons (Rp.sub (sb.trans (Stp.al (o := .tup _) b nT).ext) _ rv) .nil))⟩
    · rw [enumD_len] at hi
      exact ⟨vs, .inl (.inl (b.sub _ _ (sb _ _ g1))), by rw [g2.len]; exact hi⟩
def zipD (xs ys : List DD) : List DD := (xs.zip ys).map fun p => .tuple [p.1, p.2]
def iZ (δ : AOx) : AOx := fun env P => δ env fun ds => ∃ xs ys, ds = [.list xs, .list ys] ∧ P (zipD xs ys)
theorem ji_zip {elts : List Expr} {kk : Nat} {tpos : Pos} {δ : AOx} (hm : X.mg "zip" = none) (ha : JD X [a, b] δ) (hg : Gl X "zip" := by rfl) (hs : starEach [a, b] X.env = (false, eval a X.env) :: starEach [b] X.env := by rfl) (hpl : (backTo pos (starEach [b] X.env)).any (·.1) = false := by rfl) : JI X (.Tuple elts kk tpos) (.Call (.Name "zip" p) [a, b] [] pos) (iZ δ) := by
  obtain ⟨t, a1, a2⟩ := ha.ex
  refine ⟨_, pi_zip hg hm a1 hs hpl, fun B F0 M T env σ H F R0 P p Q q => a2 B F0 M T env σ H F R0 _ p _ fun vs ds H1 F1 s1 d1 p1 => ?_⟩
  obtain ⟨xs, ys, rfl, p1⟩ := p1
  obtain ⟨v, w, rfl, h, h'⟩ := two_of d1
  cases h with
  | @lst a vs _ g1 g2 =>
    cases h' with
    | @lst a' vs' _ g1' g2' =>
      refine ⟨a, a', vs, vs', rfl, .inl (.inl ((R0.step s1).sub _ _ g1)), .inl (.inl ((R0.step s1).sub _ _ g1')), q _ _ H1 F1 s1 (fun T i H F b sb => ⟨fun hi => ?_, fun hi => ?_⟩) p1⟩
      · unfold zipD at hi
        rw [List.length_map, List.length_zip] at hi
        have hS : SqL (kw X) H a vs := .inl (.inl (b.sub _ _ (sb _ _ g1)))
        have hS' : SqL (kw X) H a' vs' := .inl (.inl (b.sub _ _ (sb _ _ g1')))
        have hgx : xs[i]? = some xs[i] := List.getElem?_eq_getElem (by omega)
        have hgy : ys[i]? = some ys[i] := List.getElem?_eq_getElem (by omega)
        obtain ⟨v, hv, rv⟩ := g2.get hgx
        obtain ⟨v', hv', rv'⟩ := g2'.get hgy
        refine ⟨⟨vs, vs', v, v', hS, hS', hv, hv'⟩, fun x H' y => ?_⟩
        obtain ⟨Tt, z, z', rfl, nT, rfl, y, y'⟩ := y
        have := y vs hS
        rw [hv] at this
        cases Option.some.inj this
        have := y' vs' hS'
        rw [hv'] at this
        cases Option.some.inj this
        refine ⟨_, .tuple [xs[i], ys[i]], ?_, .al b nT, .tup (.inl (.inl upd_same)) (.cons (Rp.sub (sb.trans (Stp.al (o := .tup _) b nT).ext) _ rv) (.cons (Rp.sub (sb.trans (Stp.al (o := .tup _) b nT).ext) _ rv') .nil))⟩
        unfold zipD
        rw [List.getElem?_map, (List.getElem?_zip_eq_some (z := (xs[i], ys[i]))).mpr ⟨hgx, hgy⟩]
        rfl
      · unfold zipD at hi
        rw [List.length_map, List.length_zip] at hi
        refine ⟨vs, vs', .inl (.inl (b.sub _ _ (sb _ _ g1))), .inl (.inl (b.sub _ _ (sb _ _ g1'))), ?_⟩
        rw [g2.len, g2'.len]
        omega

/-! ### for -/
def aLoop (g : DD → AE → (AE → Prop) → Prop) (s : ASx) (A : AEnds) : List DD → AE → Prop
  | [] => A.nx
  | d :: ds => fun env => g d env fun env' => s { A with nx := aLoop g s A ds, ct := aLoop g s A ds, bk := A.nx } env'
def aFor (ι : AOx) (g : DD → AE → (AE → Prop) → Prop) (s : ASx) : ASx := fun A env => ι env fun ds => aLoop g s A ds env
theorem Lk.loop {K : KW} {B F0 : Hp} {M : Tws K} {A : AEnds} {D : Ends} (l : Lk K B F0 M A D) {f : AE → Prop} {g : L2.St → Hp → Prop} (h : ∀ T env σ H F, R K B F0 M T env σ H F → f env → g σ H) : Lk K B F0 M { A with nx := f, ct := f, bk := A.nx } { D with nx := g, ct := g, bk := D.nx } := ⟨h, l.rt, l.nx, h, l.rtO, l.rtE⟩
theorem Lk.back {K : KW} {B F0 F1 H1 : Hp} {M T1 : Tws K} {A : AEnds} {D : Ends} (g : Gd B F0 M T1 H1 F1) (l : Lk K B F0 M A D) : Lk K B F1 M A D :=
  ⟨fun T env σ H F r q => l.nx T env σ H F (r.back g) q, fun T v d H F r h q => l.rt T v d H F (g.back r) h q, fun T env σ H F r q => l.bk T env σ H F (r.back g) q, fun T env σ H F r q => l.ct T env σ H F (r.back g) q, fun T a ds H F r h b q => l.rtO T a ds H F (g.back r) h b q, fun T v d env σ H F r h q => l.rtE T v d env σ H F (r.back g) h q⟩
theorem sim_for {K : KW} {wi : TI} {g : TG} {tb : TS} {ι : AOx} {gg : DD → AE → (AE → Prop) → Prop} (hi : SimI K wi ι) (hg : SimG K g gg) (hb : SimS K tb s) : SimS K (tFor wi g tb) (aFor ι gg s) := fun B F0 M T env σ H F R0 A D l p =>
  hi B F0 M T env σ H F R0 _ p _ fun J ds H1 F1 s1 it p1 => by
    have R1 := R0.step s1
    have l1 := l.back R1.toGd
    refine ⟨fun i m σ H => ∃ T env F, R K B F1 M T env σ H F ∧ m = ds.length - i ∧ i ≤ ds.length ∧ aLoop gg s A (ds.drop i) env, ⟨_, T, env, F1, R1.base, rfl, Nat.zero_le _, p1⟩, ?_⟩
    rintro i m σ' H' ⟨T', env', F', R2, rfl, hi', q⟩
    by_cases hlt : i < ds.length
    · obtain ⟨go, yl⟩ := (it T' i H' F' R2.bs R2.f0).1 hlt
      refine .inr ⟨go, fun σ2 H2 => ∃ T env F, R K B F1 M T env σ2 H2 F ∧ aLoop gg s A (ds.drop (i + 1)) env, fun σ2 H2 ⟨T2, env2, F2, r2, q2⟩ => ⟨ds.length - (i + 1), by omega, T2, env2, F2, r2, rfl, hlt, q2⟩, fun x H2 y => ?_⟩
      obtain ⟨F2, d, hd, st, rx⟩ := yl x H2 y
      rw [List.drop_eq_getElem_cons hlt] at q
      have ed : ds[i] = d := by
        rw [List.getElem?_eq_getElem hlt] at hd
        exact Option.some.inj hd
      rw [ed] at q
      refine hg B F1 M T' env' σ' H2 F2 (R2.step st) x d rx _ q _ fun env3 σ3 H3 F3 _ R3 q3 => ?_
      exact hb B F1 M T' env3 σ3 H3 F3 R3 _ _ (l1.loop fun T env σ H F r q => ⟨T, env, F, r, q⟩) q3
    · have e : i = ds.length := by omega
      subst e
      rw [List.drop_length] at q
      exact .inl ⟨(it T' _ H' F' R2.bs R2.f0).2 (Nat.le_refl _), l1.nx T' env' σ' H' F' R2 q⟩
theorem js_for {tg iter : Expr} {ι : AOx} {g : DD → AE → (AE → Prop) → Prop} (hp : PassesOwn (model X.prog X.w) X.A X.env X.xe) (hc : X.calm = true) (hi : JI X tg iter ι) (hg : JG X tg g) (hb : JSs X sts s) (hs : ∀ x, foldedSetIterable iter X.env x = pure x := by intro _; rfl) :
    JS X (.For tg iter sts [] pos) (aFor ι g s) := by
  obtain ⟨wi, a1, a2⟩ := hi.ex
  obtain ⟨t, b1, b2⟩ := hg.ex
  obtain ⟨u, c1, c2⟩ := hb.ex
  exact ⟨_, ps_for hp hc a1 b1 c1 hs, sim_for a2 b2 c2⟩
/-! ### while -/
def aWhile (τ : ATx) (s : ASx) : ASx := fun A env => ∃ W : Nat → AE → Prop, (∃ m, W m env) ∧ ∀ m env, W m env → τ env fun k => (k = true → s { A with nx := fun e => ∃ m', m' < m ∧ W m' e, ct := fun e => ∃ m', m' < m ∧ W m' e, bk := A.nx } env) ∧ (k = false → A.nx env)
theorem sim_while {K : KW} {tc : TT} {tb : TS} (hc : SimT K tc τ) (hb : SimS K tb s) : SimS K (tWhile tc tb) (aWhile τ s) := fun B F0 M T env σ H F R0 A D l p => by
  obtain ⟨W, ⟨m0, w0⟩, turn⟩ := p
  refine ⟨fun m σ H => ∃ T env F, R K B F0 M T env σ H F ∧ W m env, ⟨m0, T, env, F, R0, w0⟩, ?_⟩
  rintro m σ' H' ⟨T', env', F', R1, w⟩
  refine hc B F0 M T' env' σ' H' F' R1 _ (turn m env' w) _ fun k H2 F2 s2 p2 => ?_
  cases k with
  | true =>
    refine (if_pos rfl).mpr ⟨fun σ H => ∃ T env F, R K B F0 M T env σ H F ∧ ∃ m', m' < m ∧ W m' env, fun σ3 H3 ⟨T3, env3, F3, r3, m', hm, w3⟩ => ⟨m', hm, T3, env3, F3, r3, w3⟩, ?_⟩
    exact hb B F0 M T' env' σ' H2 F2 (R1.step s2) _ _ (l.loop fun T env σ H F r q => ⟨T, env, F, r, q⟩) (p2.1 rfl)
  | false => exact (if_neg Bool.false_ne_true).mpr (l.nx T' env' σ' H2 F2 (R1.step s2) (p2.2 rfl))
theorem js_while (hp : PassesOwn (model X.prog X.w) X.A X.env X.xe) (hc : JT X c τ) (hb : JSs X sts s) : JS X (.While c sts [] pos) (aWhile τ s) := by
  obtain ⟨wi, a1, a2⟩ := hc.ex
  obtain ⟨u, c1, c2⟩ := hb.ex
  exact ⟨_, ps_while hp a1 c1, sim_while a2 c2⟩
end
end Ab

namespace Ab
open PySem PySem.Spec PyProof.Rows L2

/-! ### one reading for every context -/
def canE (K : KW) (α : AEx) : TE := fun σ H Q => ∃ B F0 M T env F, R K B F0 M T env σ H F ∧ ∃ P, α env P ∧ ∀ v d H' F', Stp T H F H' F' → Rp K F' v d → P d → Q v H'
def canT (K : KW) (τ : ATx) : TT := fun σ H Q => ∃ B F0 M T env F, R K B F0 M T env σ H F ∧ ∃ P, τ env P ∧ ∀ b H' F', Stp T H F H' F' → P b → Q b H'
section
variable {X : Cx} {e : Expr} {α : AEx} {τ : ATx}
theorem JE.can (h : JE X e α) : PE X e (canE (kw X) α) := by
  obtain ⟨t, h1, h2⟩ := h.ex
  refine ⟨fun pins s σ H Q I hw => h1.run pins s σ H Q I ?_⟩
  obtain ⟨B, F0, M, T, env, F, r, P, p, q⟩ := hw
  exact h2 B F0 M T env σ H F r P p Q q
theorem JT.can (h : JT X e τ) : PT X e (canT (kw X) τ) := by
  obtain ⟨t, h1, h2⟩ := h.ex
  refine ⟨fun pins s σ H Q I hw => h1.run pins s σ H Q I ?_⟩
  obtain ⟨B, F0, M, T, env, F, r, P, p, q⟩ := hw
  exact h2 B F0 M T env σ H F r P p Q q
theorem sim_canE {K : KW} {α : AEx} : SimE K (canE K α) α := fun B F0 M T env σ H F r P p Q q => ⟨B, F0, M, T, env, F, r, P, p, q⟩
theorem sim_canT {K : KW} {τ : ATx} : SimT K (canT K τ) τ := fun B F0 M T env σ H F r P p Q q => ⟨B, F0, M, T, env, F, r, P, p, q⟩
end

/-! ### comprehensions -/
def aYes : ATx := fun _ P => P true
theorem sim_yes {K : KW} : SimT K tYes aYes := fun B F0 M T env σ H F r P p Q q => q true H F (.refl r.bs) p
def aColl (g : DD → AE → (AE → Prop) → Prop) (τ : ATx) (α : AEx) (env : AE) (P : List DD → Prop) : List DD → List DD → Prop
  | [], acc => P acc
  | d :: ds, acc => g d env fun env' => τ env' fun b => (b = true → α env' fun y => aColl g τ α env P ds (acc ++ [y])) ∧ (b = false → aColl g τ α env P ds acc)
/-- the names of a block, forgotten -/
def wipeE (env : AE) : List Nat → AE
  | [] => env
  | v :: vs => (wipeE env vs).set v .un
def aLc (vs : List Nat) (ι : AOx) (g : DD → AE → (AE → Prop) → Prop) (τ : ATx) (α : AEx) : AOx := fun env P => ι env fun ds => ds.length ≤ lineD ∧ aColl g τ α (wipeE env vs) P ds []
theorem R.unset {K : KW} {B F0 : Hp} {M T : Tws K} {env : AE} {σ : L2.St} {H F : Hp} (i : Nat) (r : R K B F0 M T env σ H F) : R K B F0 M T (env.set i .un) (σ.set i none) H F := by
  have at_ : ∀ {j : Nat} {s : Sl}, (env.set i .un)[j]? = some s → s ≠ .un → i ≠ j ∧ env[j]? = some s := fun {j s} e n => by
    by_cases q : i = j
    · subst q
      have hl : i < env.length := by
        have := (List.getElem?_eq_some_iff.mp e).1
        rwa [List.length_set] at this
      rw [List.getElem?_set_self hl] at e
      exact absurd (Option.some.inj e).symm n
    · rw [List.getElem?_set_ne q] at e
      exact ⟨q, e⟩
  refine ⟨r.toGd, by rw [List.length_set, List.length_set]; exact r.len, fun j d e => ?_, fun j ds e => ?_, fun j kk e => ?_, fun j ns e => ?_, fun j k ds es a h1 h2 h3 h4 => ?_, r.lnS (fun φ z => by cases z) (fun g a z => by cases z)⟩
  · obtain ⟨q, e⟩ := at_ e (by intro z; cases z)
    rw [List.getElem?_set_ne q]; exact r.va j d e
  · obtain ⟨q, e⟩ := at_ e (by intro z; cases z)
    rw [List.getElem?_set_ne q]; exact r.og j ds e
  · obtain ⟨q, e⟩ := at_ e (by intro z; cases z)
    rw [List.getElem?_set_ne q]; exact r.ti j kk e
  · obtain ⟨q, e⟩ := at_ e (by intro z; cases z)
    rw [List.getElem?_set_ne q]; exact r.sc j ns e
  · obtain ⟨q1, h1⟩ := at_ h1 (by intro z; cases z)
    obtain ⟨q2, h2⟩ := at_ h2 (by intro z; cases z)
    rw [List.getElem?_set_ne q1] at h3
    rw [List.getElem?_set_ne q2] at h4
    exact r.di j k ds es a h1 h2 h3 h4
theorem R.wipe {K : KW} {B F0 : Hp} {M T : Tws K} {env : AE} {σ : L2.St} {H F : Hp} (r : R K B F0 M T env σ H F) : ∀ (vs : List Nat), R K B F0 M T (wipeE env vs) (wipe σ vs) H F
  | [] => r
  | v :: vs => (R.wipe r vs).unset v
/-- a target of a block: what it stores is forgotten behind it -/
def SimGw (K : KW) (vs : List Nat) (g : TG) (γ : DD → AE → (AE → Prop) → Prop) : Prop := ∀ B F0 M T env σ H F, R K B F0 M T env (wipe σ vs) H F → ∀ v d, Rp K F v d → ∀ P, γ d env P → ∀ Q : L2.St → Hp → Prop,
  (∀ env' σ' H' F', Stp T H F H' F' → R K B F0 M T env' σ' H' F' → wipe σ' vs = wipe σ vs → P env' → Q σ' H') → g v (wipe σ vs) H Q
theorem simgw_name {K : KW} {i : Nat} : SimGw K [i] (gName i) (tgN i) := fun B F0 M T env σ H F R0 v d h P p Q q => by
  refine q _ _ H F (.refl R0.bs) (R0.put h _ rfl) ?_ p
  show ((σ.set i none).set i (some v)).set i none = σ.set i none
  rw [List.set_set, List.set_set]
theorem simgw_two {K : KW} {i j : Nat} (hij : i ≠ j) : SimGw K [i, j] (gTup K 2 (gCons (gName i) (gCons (gName j) gNil))) (tgTup 2 (tgsCons (tgN i) (tgsCons (tgN j) tgsNil))) := fun B F0 M T env σ H F R0 v d h P p Q q => by
  obtain ⟨ds, rfl, hl, d1, r1, rfl, d2, r2, rfl, rfl, p⟩ := p
  cases h with
  | tup g1 g2 =>
    obtain ⟨v1, v2, rfl, h1, h2⟩ := two_of g2
    refine ⟨_, _, rfl, R0.sub.seqT g1, rfl, v1, [v2], rfl, v2, [], rfl, rfl, q _ _ H F (.refl R0.bs) ((R0.put h1 _ rfl).put h2 _ rfl) ?_ p⟩
    show (((((σ.set j none).set i none).set i (some v1)).set j (some v2)).set j none).set i none = (σ.set j none).set i none
    apply List.ext_getElem?
    intro m
    simp only [List.getElem?_set, List.length_set]
    split <;> split <;> simp_all
theorem simgw_three {K : KW} {i j k : Nat} (hij : i ≠ j) (hik : i ≠ k) (hjk : j ≠ k) : SimGw K [i, j, k] (gTup K 3 (gCons (gName i) (gCons (gName j) (gCons (gName k) gNil)))) (tgTup 3 (tgsCons (tgN i) (tgsCons (tgN j) (tgsCons (tgN k) tgsNil)))) := fun B F0 M T env σ H F R0 v d h P p Q q => by
  obtain ⟨ds, rfl, hl, d1, r1, rfl, d2, r2, rfl, d3, r3, rfl, rfl, p⟩ := p
  cases h with
  | tup g1 g2 =>
    obtain ⟨v1, v2, v3, rfl, h1, h2, h3⟩ := three_of g2
    refine ⟨_, _, rfl, R0.sub.seqT g1, rfl, v1, [v2, v3], rfl, v2, [v3], rfl, v3, [], rfl, rfl, q _ _ H F (.refl R0.bs) (((R0.put h1 _ rfl).put h2 _ rfl).put h3 _ rfl) ?_ p⟩
    show ((((((((σ.set k none).set j none).set i none).set i (some v1)).set j (some v2)).set k (some v3)).set k none).set j none).set i none = ((σ.set k none).set j none).set i none
    apply List.ext_getElem?
    intro m
    simp only [List.getElem?_set, List.length_set]
    split <;> split <;> simp_all <;> split <;> simp_all
theorem sim_lc {K : KW} {wi : TI} {g : TG} {tt : TT} {te : TE} {vs : List Nat} {ι : AOx} {gg : DD → AE → (AE → Prop) → Prop} {τ : ATx} {α : AEx} (hi : SimI K wi ι) (hg : SimGw K vs g gg) (ht : SimT K tt τ) (he : SimE K te α) : SimO K (tLc wi g tt te vs) (aLc vs ι gg τ α) :=
  fun B F0 M T env σ H F R0 P p Q q => hi B F0 M T env σ H F R0 _ p _ fun J ds H1 F1 s1 it p1 => fun Dl hD => by
    have R1 := R0.step s1
    have nT : ¬ T Dl := fun t => by
      obtain ⟨_, z⟩ := Tws.has (R1.toGd.tw Dl t).2.1
      rw [hD] at z; cases z
    refine ⟨fun i m H => ∃ F acc ws, m = ds.length - i ∧ i ≤ ds.length ∧ Stp T H1 F1 H F ∧ H Dl = some (.lst ws) ∧ F Dl = none ∧ RpAll K F ws acc ∧ acc.length ≤ i ∧ aColl gg τ α (wipeE env vs) P (ds.drop i) acc,
      ⟨_, F1, [], [], rfl, Nat.zero_le _, .al0 R1.bs hD, upd_same, fnone R1.bs hD, .nil, Nat.le_refl _, p1.2⟩, ?_⟩
    rintro i m H2 ⟨F2, acc, ws, rfl, hi', s2, h1, h2, h3, h4, q2⟩
    have R2 := R1.step s2
    by_cases hlt : i < ds.length
    · obtain ⟨go, yl⟩ := (it T i H2 F2 R2.bs s2.ext).1 hlt
      refine .inr ⟨go, fun H => ∃ F acc ws, Stp T H1 F1 H F ∧ H Dl = some (.lst ws) ∧ F Dl = none ∧ RpAll K F ws acc ∧ acc.length ≤ i + 1 ∧ aColl gg τ α (wipeE env vs) P (ds.drop (i + 1)) acc,
        fun H' ⟨F', acc', ws', a1, a2, a3, a4, a5, a6⟩ => ⟨ds.length - (i + 1), by omega, F', acc', ws', rfl, hlt, a1, a2, a3, a4, a5, a6⟩, fun x H3 y => ?_⟩
      obtain ⟨F3, d, hd, s3, rx⟩ := yl x H3 y
      rw [List.drop_eq_getElem_cons hlt] at q2
      have ed : ds[i] = d := by
        rw [List.getElem?_eq_getElem hlt] at hd
        exact Option.some.inj hd
      rw [ed] at q2
      refine hg B F0 M T (wipeE env vs) σ H3 F3 ((R2.step s3).wipe vs) x d rx _ q2 _ fun env4 σ4 H4 F4 s4 R4 ew q4 => ⟨ew, ?_⟩
      refine ht B F0 M T env4 σ4 H4 F4 R4 _ q4 _ fun b H5 F5 s5 q5 => ?_
      have s25 := (s3.trans s4).trans s5
      have k5 : H5 Dl = some (.lst ws) := s25.keep Dl _ h1 nT
      have n5 : ∀ {H' F'}, Stp T H2 F2 H' F' → F' Dl = none := fun {H' F'} st => by
        cases e : F' Dl with
        | none => rfl
        | some o =>
          rcases st.new Dl o e with z | z
          · rw [h2] at z; cases z
          · rw [h1] at z; cases z
      cases b with
      | true =>
        refine (if_pos rfl).mpr (he B F0 M T env4 σ4 H5 F5 (R4.step s5) _ (q5.1 rfl) _ fun v y H6 F6 s6 ry q6 => ?_)
        have s26 := s25.trans s6
        have b6 : Bs T H6 F6 := ((R2.step s26)).bs
        refine ⟨ws, s26.keep Dl _ h1 nT, line_lt (by rw [h3.len]; exact Nat.lt_of_le_of_lt h4 (Nat.lt_of_lt_of_le hlt p1.1)), F6, acc ++ [y], ws ++ [v], ?_, upd_same, n5 s26, (RpAll.sub s26.ext _ h3).app (.cons ry .nil), by rw [List.length_append]; exact Nat.add_le_add_right h4 1, q6⟩
        have s16 := s2.trans s26
        refine ⟨fun a o e => ?_, s16.ext, s16.new, fun a o e t => ?_, fun a t => ?_⟩
        · have : a ≠ Dl := fun z => by rw [z, n5 s26] at e; cases e
          rw [upd_ne this]; exact s16.sub a o e
        · have : a ≠ Dl := fun z => by rw [z, hD] at e; cases e
          rw [upd_ne this]; exact s16.keep a o e t
        · have : a ≠ Dl := fun z => nT (z ▸ t)
          exact Tws.mono (s16.tc a t) this (.inr (by rw [s26.keep Dl _ h1 nT]; trivial))
      | false =>
        exact (if_neg Bool.false_ne_true).mpr ⟨F5, acc, ws, s2.trans s25, k5, n5 s25, RpAll.sub s25.ext _ h3, Nat.le_succ_of_le h4, q5.2 rfl⟩
    · have e : i = ds.length := by omega
      subst e
      rw [List.drop_length] at q2
      exact .inl ⟨(it T _ H2 F2 R2.bs s2.ext).2 (Nat.le_refl _), q Dl ws acc H2 F2 (s1.trans s2) h1 h2 (s1.dom hD) h3 q2⟩
section
variable {X : Cx} {elt tg iter c : Expr} {scope : Scope} {own : List (Str × Nat)} {pos : Pos} {ι : AOx} {g : TG} {gg : DD → AE → (AE → Prop) → Prop} {τ : ATx} {α : AEx}
/-- [elt for tg in iter] -/
theorem j_lc (hc : X.calm = true) (nd : X.N.Nodup) (hi : JI X tg iter ι) (ok : BlkOk X.N X.env.scope scope own)
    (hg : ∀ (s : Shared) (H : Hp) (C : Addr) (cl : List (Str × Addr)) (fp : List Addr), PG (X.blk s H scope (compEnvC scope cl C X.env) fp) tg g) (hgw : SimGw (kw X) (own.map (·.2)) g gg)
    (he : ∀ (s : Shared) (H : Hp) (C : Addr) (cl : List (Str × Addr)) (fp : List Addr), JE (X.blk s H scope (compEnvC scope cl C X.env) fp) elt α) (hs : ∀ x, foldedSetIterable iter X.env x = pure x := by intro _; rfl) :
    JO X (.ListComp elt [⟨tg, iter, [], 0⟩] scope pos) (aLc (own.map (·.2)) ι gg aYes α) := by
  obtain ⟨wi, a1, a2⟩ := hi.ex
  exact ⟨_, pe_lc hc nd a1 ok hg (fun _ _ _ _ _ => pts_nil) (fun s H C cl fp => (he s H C cl fp).can) hs, sim_lc a2 hgw sim_yes sim_canE⟩
/-- [elt for tg in iter if c] -/
theorem j_lcIf (hc : X.calm = true) (nd : X.N.Nodup) (hi : JI X tg iter ι) (ok : BlkOk X.N X.env.scope scope own)
    (hg : ∀ (s : Shared) (H : Hp) (C : Addr) (cl : List (Str × Addr)) (fp : List Addr), PG (X.blk s H scope (compEnvC scope cl C X.env) fp) tg g) (hgw : SimGw (kw X) (own.map (·.2)) g gg)
    (ht : ∀ (s : Shared) (H : Hp) (C : Addr) (cl : List (Str × Addr)) (fp : List Addr), JT (X.blk s H scope (compEnvC scope cl C X.env) fp) c τ)
    (he : ∀ (s : Shared) (H : Hp) (C : Addr) (cl : List (Str × Addr)) (fp : List Addr), JE (X.blk s H scope (compEnvC scope cl C X.env) fp) elt α) (hs : ∀ x, foldedSetIterable iter X.env x = pure x := by intro _; rfl) :
    JO X (.ListComp elt [⟨tg, iter, [c], 0⟩] scope pos) (aLc (own.map (·.2)) ι gg τ α) := by
  obtain ⟨wi, a1, a2⟩ := hi.ex
  exact ⟨_, pe_lc hc nd a1 ok hg (fun s H C cl fp => pts_one (ht s H C cl fp).can) (fun s H C cl fp => (he s H C cl fp).can) hs, sim_lc a2 hgw sim_canT sim_canE⟩
/-- name = [..]: settled, or one's own -/
theorem js_setLc (i : Nat) {y : Str} {py spos : Pos} (hc : X.calm = true) (nd : X.N.Nodup) (hi : JI X tg iter ι) (ok : BlkOk X.N X.env.scope scope own)
    (hg : ∀ (s : Shared) (H : Hp) (C : Addr) (cl : List (Str × Addr)) (fp : List Addr), PG (X.blk s H scope (compEnvC scope cl C X.env) fp) tg g) (hgw : SimGw (kw X) (own.map (·.2)) g gg)
    (he : ∀ (s : Shared) (H : Hp) (C : Addr) (cl : List (Str × Addr)) (fp : List Addr), JE (X.blk s H scope (compEnvC scope cl C X.env) fp) elt α)
    (hsw : swapsWith (.ListComp elt [⟨tg, iter, [], 0⟩] scope pos) (some (.Name y py)) spos.line X.env = pure true)
    (hy : X.N[i]? = some y := by rfl) (hyl : X.env.scope.names.lookup y = some .local := by rfl) (hs : ∀ x, foldedSetIterable iter X.env x = pure x := by intro _; rfl) :
    JS X (.Assign [.Name y py] (.ListComp elt [⟨tg, iter, [], 0⟩] scope pos) spos) (aSet i (aO (aLc (own.map (·.2)) ι gg aYes α))) := by
  obtain ⟨wi, a1, a2⟩ := hi.ex
  exact ⟨_, ps_setLc hc nd hy hyl hsw a1 ok hg (fun _ _ _ _ _ => pts_nil) (fun s H C cl fp => (he s H C cl fp).can) hs, sim_set (sim_lc a2 hgw sim_yes sim_canE).se⟩
theorem js_setLcIf (i : Nat) {y : Str} {py spos : Pos} (hc : X.calm = true) (nd : X.N.Nodup) (hi : JI X tg iter ι) (ok : BlkOk X.N X.env.scope scope own)
    (hg : ∀ (s : Shared) (H : Hp) (C : Addr) (cl : List (Str × Addr)) (fp : List Addr), PG (X.blk s H scope (compEnvC scope cl C X.env) fp) tg g) (hgw : SimGw (kw X) (own.map (·.2)) g gg)
    (ht : ∀ (s : Shared) (H : Hp) (C : Addr) (cl : List (Str × Addr)) (fp : List Addr), JT (X.blk s H scope (compEnvC scope cl C X.env) fp) c τ)
    (he : ∀ (s : Shared) (H : Hp) (C : Addr) (cl : List (Str × Addr)) (fp : List Addr), JE (X.blk s H scope (compEnvC scope cl C X.env) fp) elt α)
    (hsw : swapsWith (.ListComp elt [⟨tg, iter, [c], 0⟩] scope pos) (some (.Name y py)) spos.line X.env = pure true)
    (hy : X.N[i]? = some y := by rfl) (hyl : X.env.scope.names.lookup y = some .local := by rfl) (hs : ∀ x, foldedSetIterable iter X.env x = pure x := by intro _; rfl) :
    JS X (.Assign [.Name y py] (.ListComp elt [⟨tg, iter, [c], 0⟩] scope pos) spos) (aSet i (aO (aLc (own.map (·.2)) ι gg τ α))) := by
  obtain ⟨wi, a1, a2⟩ := hi.ex
  exact ⟨_, ps_setLc hc nd hy hyl hsw a1 ok hg (fun s H C cl fp => pts_one (ht s H C cl fp).can) (fun s H C cl fp => (he s H C cl fp).can) hs, sim_set (sim_lc a2 hgw sim_canT sim_canE).se⟩
end

/-! ### a def keeps its promise -/
theorem start_len (N : List Str) (vs : List V) : (L2.start N vs).length = vs.length + (N.length - vs.length) := by
  unfold L2.start
  rw [List.length_append, List.length_map, List.length_replicate]
theorem start_get {N : List Str} {vs : List V} {i : Nat} {v : V} (h : vs[i]? = some v) : (L2.start N vs)[i]? = some (some v) := by
  have hi := (List.getElem?_eq_some_iff.mp h).1
  unfold L2.start
  rw [List.getElem?_append_left (by rw [List.length_map]; exact hi), List.getElem?_map, h]
  rfl
theorem paired_get {K : KW} {T : Tws K} {F : Hp} : ∀ {vs : List V} {as : AE} {i : Nat} {s : Sl}, Paired (Arg K T F) vs as → as[i]? = some s → ∃ v, vs[i]? = some v ∧ Arg K T F v s
  | _, _, _, _, .nil, e => by simp at e
  | _, _, 0, _, .cons r _, e => by cases Option.some.inj e; exact ⟨_, rfl, r⟩
  | _, _, i + 1, _, .cons _ t, e => paired_get (i := i) t (by simpa using e)
theorem def_fn {P : Program} {w : World} {K : PySem.W.Frag} {mg : Str → Option Value} {base : Heap} {k : Nat} {x qual : Str} {st : Stmt} {f : Addr} {fd : FuncData} {N ps : List Str} {W : Wt} (us : AE) (F : Fun K x qual st f fd) (S : FnScope N ps (defScope st))
    (hbody : ∃ a : ASx, (∀ (cdv : Value) (A : Around) (outer : List Env) (s : Shared) (H : Hp) (E : XK), Room k (A.deeper (envOfC qual (defScope st) s.heap.objs.size f cdv)) → JSs (cxOf CX0 P w K mg base N qual (defScope st) f cdv A outer s H E).nox (defBody st) a) ∧
      ∀ as Q, as.length = ps.length → W as Q → a { nx := fun _ => Q .none, rt := Q } (as ++ us))
    (hus : us = List.replicate (N.length - ps.length) Sl.un := by rfl) : FnOk P w K mg base CX0 (k + 1) f fd ps (spA ⟨K, P, w⟩ ps.length W) := by
  refine F.ok S (fun vs H Q E h => spA_len vs H Q E h) (fun cdv A outer s H vs Q E hr h => ?_)
  obtain ⟨a, hb1, hb2⟩ := hbody
  obtain ⟨F1, T, as, Pd, b, pr, hl, hw, q⟩ := h
  obtain ⟨t, h1, h2⟩ := (hb1 cdv A outer s H E hr).ex
  have hvl : vs.length = as.length := pairedLen pr
  refine ⟨t, h1, h2 H F1 T T (as ++ us) (L2.start N vs) H F1 ?_ _ _ ?_ (hb2 as Pd hl hw)⟩
  · have at_ : ∀ {i : Nat} {s : Sl}, (as ++ us)[i]? = some s → s ≠ .un → as[i]? = some s := fun {i s} e n => by
      by_cases hi : i < as.length
      · rwa [List.getElem?_append_left hi] at e
      · rw [List.getElem?_append_right (by omega), hus, List.getElem?_replicate] at e
        split at e
        · exact absurd (Option.some.inj e).symm n
        · cases e
    refine ⟨⟨b.sub, Sub.refl _, fun _ _ h => .inl h, fun _ _ h _ => h, fun a t => ⟨(b.tw a t).1, (b.tw a t).2, .inl t⟩, fun _ h => ⟨h, KdLe.refl _⟩⟩, ?_, fun i d e => ?_, fun i ds e => ?_, fun i kk e => ?_, fun i ns e => ?_, fun i j ds es a h1 _ _ _ => ?_, fun i φ e => ?_⟩
    case refine_7 =>
      obtain ⟨v, hv, ha⟩ := paired_get pr (at_ e (by intro z; cases z))
      cases ha
    · rw [List.length_append, start_len, hus, List.length_replicate, hvl, hl]
    · obtain ⟨v, hv, ha⟩ := paired_get pr (at_ e (by intro z; cases z))
      cases ha with
      | va h => exact ⟨v, start_get hv, h⟩
    · obtain ⟨v, hv, ha⟩ := paired_get pr (at_ e (by intro z; cases z))
      cases ha
    · obtain ⟨v, hv, ha⟩ := paired_get pr (at_ e (by intro z; cases z))
      cases ha with
      | ty h e => exact ⟨_, h, e, start_get hv⟩
    · obtain ⟨v, hv, ha⟩ := paired_get pr (at_ e (by intro z; cases z))
      cases ha with
      | sc h => exact ⟨_, start_get hv, h⟩
    · obtain ⟨v, hv, ha⟩ := paired_get pr (at_ h1 (by intro z; cases z))
      cases ha
  · have fin : ∀ T' v d H' F', Gd H F1 T T' H' F' → Rp ⟨K, P, w⟩ F' v d → Pd d → Q v H' := fun T' v d H' F' g r p =>
      q v d H' F' ⟨g.sub, g.f0, g.new, g.keep, fun a t => Tws.le_ok (g.tw a (g.mt a t).1).2.1 (g.mt a t).2⟩ r p
    exact ⟨fun T' env σ H' F' r p => fin T' .non .none H' F' r.toGd .non p, fin, fun _ _ _ _ _ _ z => z.elim, fun _ _ _ _ _ _ z => z.elim, fun _ _ _ _ _ _ _ _ z => z.elim, fun _ _ _ _ _ _ _ _ _ z => z.elim⟩
theorem def_ok {P : Program} {w : World} {K : PySem.W.Frag} {mg : Str → Option Value} {base : Heap} {k : Nat} {x qual : Str} {st : Stmt} {f : Addr} {fd : FuncData} {N ps : List Str} {W : Wt} (us : AE) (F : Fun K x qual st f fd) (S : FnScope N ps (defScope st))
    (gm : mg x = some (.ref f)) (hb : Binds K fd ps [])
    (hbody : ∃ a : ASx, (∀ (cdv : Value) (A : Around) (outer : List Env) (s : Shared) (H : Hp) (E : XK), Room k (A.deeper (envOfC qual (defScope st) s.heap.objs.size f cdv)) → JSs (cxOf CX0 P w K mg base N qual (defScope st) f cdv A outer s H E).nox (defBody st) a) ∧
      ∀ as Q, as.length = ps.length → W as Q → a { nx := fun _ => Q .none, rt := Q } (as ++ us))
    (hus : us = List.replicate (N.length - ps.length) Sl.un := by rfl) : Cl P w K mg base (k + 1) x ps.length W :=
  ⟨f, fd, ps, def_fn us F S hbody hus, gm, F.kp, hb⟩
/-- law's promise, and its end -/
def WLaw : Wt := fun as P => ∃ ns : List Int, as = [.sc ns] ∧ ns.length ≤ 63 ∧ P (.bool true)
theorem law_sp {K : KW} {H : Hp} {a : Addr} {ns : List Int} (hl : ns.length ≤ 63) (h : SqL K H a (ns.map V.int)) : spA K 1 WLaw [.ref a] H (fun v _ => v = .bl true) fun _ _ _ => False :=
  ⟨H, ⟨fun _ => False, fun _ => none⟩, [.sc ns], fun d => d = .bool true, ⟨Sub.refl _, fun _ t => t.elim⟩, .cons (.sc h) .nil, rfl, ⟨ns, rfl, hl, rfl⟩, fun v d H' F' _ r e => by subst e; cases r; rfl⟩
end Ab
namespace Ab
open PySem PySem.Spec PyProof.Rows L2
/-! a new list handed back -/
section
variable {X : Cx} {e : Expr} {pos : Pos} {α : AOx}
def aRetO (α : AOx) : ASx := fun A env => α env fun ds => A.rtO ds
theorem js_retO (he : JO X e α) : JS X (.Return (some e) pos) (aRetO α) := by
  obtain ⟨t, h1, h2⟩ := he.ex
  exact ⟨_, ps_ret h1, fun B F0 M T env σ H F R0 A D l p => h2 B F0 M T env σ H F R0 _ p _ fun a vs ds H1 F1 s1 g1 g2 g3 d1 p1 =>
    l.rtO T a ds H1 (upd F1 a (.lst vs)) (R0.step (s1.fz g3 g1 g2)).toGd (.lst upd_same (RpAll.sub (sub_upd g2) _ d1)) (R0.toGd.dom g3) p1⟩
end
section
variable {X : Cx} {e : Expr} {pos : Pos} {α : AEx}
def aRetE (α : AEx) : ASx := fun A env => α env fun d => A.rtE d env
theorem js_retE (he : JE X e α) : JS X (.Return (some e) pos) (aRetE α) := by
  obtain ⟨t, h1, h2⟩ := he.ex
  exact ⟨_, ps_ret h1, fun B F0 M T env σ H F R0 A D l p => h2 B F0 M T env σ H F R0 _ p _ fun v d H1 F1 s1 d1 p1 => l.rtE T v d env σ H1 F1 (R0.step s1) d1 p1⟩
end
abbrev WtO := AE → (List DD → Prop) → Prop
def spAO (K : KW) (n : Nat) (W : WtO) : Sp := fun vs H Q _ => ∃ (F : Hp) (T : Tws K) (as : AE) (P : List DD → Prop), Bs T H F ∧ Paired (Arg K T F) vs as ∧ as.length = n ∧ W as P ∧ ∀ a ds H' F', Stp T H F H' F' → Rp K F' (.ref a) (.list ds) → H a = none → P ds → Q (.ref a) H'
/-- what it promises without that it is new -/
theorem spAO_spA {K : KW} {n : Nat} {W : WtO} {vs : List V} {H : Hp} {Q : VK} {E : XK} (h : spA K n (fun as P => W as fun ds => P (.list ds)) vs H Q E) : spAO K n W vs H Q E := by
  obtain ⟨F, T, as, P, b, pr, hl, hw, q⟩ := h
  exact ⟨F, T, as, _, b, pr, hl, hw, fun a ds H' F' s r _ p => q _ _ H' F' s r p⟩
theorem spAO_len {K : KW} {n : Nat} {W : WtO} : ∀ vs H Q E, spAO K n W vs H Q E → vs.length = n := fun vs H Q E h => by
  obtain ⟨F, T, as, P, _, h2, h3, _⟩ := h
  rw [← h3]
  exact pairedLen h2
/-- a def that hands a new list back -/
theorem def_fnO {P : Program} {w : World} {K : PySem.W.Frag} {mg : Str → Option Value} {base : Heap} {k : Nat} {x qual : Str} {st : Stmt} {f : Addr} {fd : FuncData} {N ps : List Str} {W : WtO} (us : AE) (F : Fun K x qual st f fd) (S : FnScope N ps (defScope st))
    (hbody : ∃ a : ASx, (∀ (cdv : Value) (A : Around) (outer : List Env) (s : Shared) (H : Hp) (E : XK), Room k (A.deeper (envOfC qual (defScope st) s.heap.objs.size f cdv)) → JSs (cxOf CX0 P w K mg base N qual (defScope st) f cdv A outer s H E).nox (defBody st) a) ∧
      ∀ as Q, as.length = ps.length → W as Q → a { nx := fun _ => False, rt := fun _ => False, rtO := Q } (as ++ us))
    (hus : us = List.replicate (N.length - ps.length) Sl.un := by rfl) : FnOk P w K mg base CX0 (k + 1) f fd ps (spAO ⟨K, P, w⟩ ps.length W) := by
  refine F.ok S (fun vs H Q E h => spAO_len vs H Q E h) (fun cdv A outer s H vs Q E hr h => ?_)
  obtain ⟨a, hb1, hb2⟩ := hbody
  obtain ⟨F1, T, as, Pd, b, pr, hl, hw, q⟩ := h
  obtain ⟨t, h1, h2⟩ := (hb1 cdv A outer s H E hr).ex
  have hvl : vs.length = as.length := pairedLen pr
  refine ⟨t, h1, h2 H F1 T T (as ++ us) (L2.start N vs) H F1 ?_ _ _ ?_ (hb2 as Pd hl hw)⟩
  · have at_ : ∀ {i : Nat} {s : Sl}, (as ++ us)[i]? = some s → s ≠ .un → as[i]? = some s := fun {i s} e n => by
      by_cases hi : i < as.length
      · rwa [List.getElem?_append_left hi] at e
      · rw [List.getElem?_append_right (by omega), hus, List.getElem?_replicate] at e
        split at e
        · exact absurd (Option.some.inj e).symm n
        · cases e
    refine ⟨⟨b.sub, Sub.refl _, fun _ _ h => .inl h, fun _ _ h _ => h, fun a t => ⟨(b.tw a t).1, (b.tw a t).2, .inl t⟩, fun _ h => ⟨h, KdLe.refl _⟩⟩, ?_, fun i d e => ?_, fun i ds e => ?_, fun i kk e => ?_, fun i ns e => ?_, fun i j ds es a h1 _ _ _ => ?_, fun i φ e => ?_⟩
    case refine_7 =>
      obtain ⟨v, hv, ha⟩ := paired_get pr (at_ e (by intro z; cases z))
      cases ha
    · rw [List.length_append, start_len, hus, List.length_replicate, hvl, hl]
    · obtain ⟨v, hv, ha⟩ := paired_get pr (at_ e (by intro z; cases z))
      cases ha with
      | va h => exact ⟨v, start_get hv, h⟩
    · obtain ⟨v, hv, ha⟩ := paired_get pr (at_ e (by intro z; cases z))
      cases ha
    · obtain ⟨v, hv, ha⟩ := paired_get pr (at_ e (by intro z; cases z))
      cases ha with
      | ty h e => exact ⟨_, h, e, start_get hv⟩
    · obtain ⟨v, hv, ha⟩ := paired_get pr (at_ e (by intro z; cases z))
      cases ha with
      | sc h => exact ⟨_, start_get hv, h⟩
    · obtain ⟨v, hv, ha⟩ := paired_get pr (at_ h1 (by intro z; cases z))
      cases ha
  · refine ⟨fun _ _ _ _ _ _ z => z.elim, fun _ _ _ _ _ _ _ z => z.elim, fun _ _ _ _ _ _ z => z.elim, fun _ _ _ _ _ _ z => z.elim, fun T' a d H' F' g r n p => ?_, fun _ _ _ _ _ _ _ _ _ z => z.elim⟩
    exact q a d H' F' ⟨g.sub, g.f0, g.new, g.keep, fun a t => Tws.le_ok (g.tw a (g.mt a t).1).2.1 (g.mt a t).2⟩ r n p
end Ab

namespace Ab
open PySem PySem.Spec PyProof.Rows L2
section
variable {X : Cx} {e a b c : Expr} {es : List Expr} {pos p : Pos} {α β γ : AEx} {x : Str} {n : Nat}
/-- x[b], x a list of one's own -/
def aIxO (i : Nat) (β : AEx) : AEx := fun env P => ∃ ds, env[i]? = some (.ow ds) ∧ β env fun y => ∃ k d, y = .int k ∧ atI ds k = some d ∧ P d
theorem j_ixO (i : Nat) {px : Pos} (hb : JE X b β) (hN : X.N[i]? = some x := by rfl) (hv : Vis X.env.scope x := by first | exact Or.inl rfl | exact Or.inr (Or.inl rfl) | exact Or.inr (Or.inr rfl)) (hd : (x == ("__debug__" : Str)) = false := by decide)
    (hcd : (x == ("__classdict__" : Str)) = false := by decide) (hs : PlainIx b := by intro _ _; rfl) : JE X (.Subscript (.Name x px) b pos) (aIxO i β) := by
  obtain ⟨t, h1, h2⟩ := hb.ex
  refine ⟨_, pe_ix ix_list (pe_var hN hv hd hcd) h1 hs, fun B F0 M T env σ H F R0 P p Q q => ?_⟩
  obtain ⟨ds, p1, p2⟩ := p
  obtain ⟨a, vs, e1, _⟩ := R0.ow i ds p1
  refine ⟨_, e1, h2 B F0 M T env σ H F R0 _ p2 _ fun v d H1 F1 s1 d1 p3 => ?_⟩
  obtain ⟨k, d', rfl, p4, p5⟩ := p3
  cases d1
  obtain ⟨ws, g1, g2⟩ := (R0.step s1).owAt p1 e1
  obtain ⟨v, hv, rv⟩ := atI_data g2 p4
  exact ⟨a, ws, k, v, rfl, rfl, .inl (.inl g1), hv, q v d' H1 F1 s1 rv p5⟩
/-- len(x), x a list of one's own -/
def aLenO (i : Nat) : AEx := fun env P => ∃ ds, env[i]? = some (.ow ds) ∧ P (.int (ds.length : Int))
theorem j_lenO (i : Nat) {y : Str} {px : Pos} (hm : X.mg y = none) (hv' : bootBuiltins y = some (.builtin "len")) (hg : Gl X y := by rfl) (hN : X.N[i]? = some x := by rfl) (hv : Vis X.env.scope x := by first | exact Or.inl rfl | exact Or.inr (Or.inl rfl) | exact Or.inr (Or.inr rfl)) (hd : (x == ("__debug__" : Str)) = false := by decide)
    (hcd : (x == ("__classdict__" : Str)) = false := by decide) (hn : y ≠ "__name__" := by decide) (hdb : (y == ("__debug__" : Str)) = false := by decide)
    (he : starEach [.Name x px] X.env = (false, eval (.Name x px) X.env) :: starEach [] X.env := by rfl) (hpl : (backTo pos (starEach [] X.env)).any (·.1) = false := by rfl) : JE X (.Call (.Name y p) [.Name x px] [] pos) (aLenO i) := by
  refine ⟨_, pe_callB call_len_seq hg hm hv' (pa_cons (pe_var hN hv hd hcd) pa_nil he) hn hdb he hpl, fun B F0 M T env σ H F R0 P p Q q => ?_⟩
  obtain ⟨ds, p1, p2⟩ := p
  obtain ⟨a, vs, e1, e2, _, _, _, e6⟩ := R0.ow i ds p1
  exact ⟨_, e1, a, vs, rfl, .inl (.inl (.inl e2)), by rw [e6.len]; exact q _ _ H F (.refl R0.bs) (.int _) p2⟩
/-- o[i], by values, a list -/
def rGetL (K : KW) : V → V → Hp → VK → Prop := fun x y H Q => ∃ p xs i v, x = .ref p ∧ y = .int i ∧ SqL K H p xs ∧ atI xs i = some v ∧ Q v H
theorem pget_list : PGet X (rGetL (kw X)) := by
  intro pins s σ H x y v u Q I rx ry h
  obtain ⟨p, xs, i, z, rfl, rfl, hq, he, q⟩ := h
  cases rx
  obtain ⟨t, rfl⟩ := ry
  obtain ⟨its, r, pl, hz⟩ := I.list hq
  obtain ⟨j, h1, h2, h3, h4, h5⟩ := atI_get he
  obtain ⟨w, ew, rw'⟩ := r.get h2
  have hl := r.length
  have hn := line63
  have fin : EP X pins σ Q w s := ⟨z, H, I, rw', q⟩
  by_cases h0 : 0 ≤ i
  · have hj : i.toNat = j := by
      rw [seqIndex_of h0 h5] at h1
      exact Option.some.inj h1
    exact wpAny_getItem_list pl.isList h0 (by omega) (by rw [hj]; simpa using ew) fin
  · have hj : (i + (its.toArray.size : Int)).toNat = j := by
      rw [seqIndex_neg (by omega) h4] at h1
      rw [List.size_toArray, ← hl]
      exact Option.some.inj h1
    exact wpAny_getItem_list_neg pl.isList (by omega) (by rw [List.size_toArray] <;> omega) (by omega) (by rw [hj]; simpa using ew) fin
/-- x[b] op= e, ints, x a list of one's own -/
def aAugIx (i : Nat) (f : Int → Int → Int) (β α : AEx) : ASx := fun A env => ∃ ds, env[i]? = some (.ow ds) ∧ β env fun y => ∃ k j m, y = .int k ∧ ixN ds.length k = some j ∧ ds[j]? = some (.int m) ∧ α env fun d => ∃ n, d = .int n ∧ A.nx (env.set i (.ow (ds.set j (.int (f m n)))))
theorem js_augIx (i : Nat) {px : Pos} {op : Operator} {f : Int → Int → Int} (ho : PIp X op (ipI f)) (hb : JE X b β) (he : JE X e α) (hN : X.N[i]? = some x := by rfl) (hv : Vis X.env.scope x := by first | exact Or.inl rfl | exact Or.inr (Or.inl rfl) | exact Or.inr (Or.inr rfl)) (hd : (x == ("__debug__" : Str)) = false := by decide)
    (hcd : (x == ("__classdict__" : Str)) = false := by decide) (ha : ∀ ov iv new, augStore b ov iv new = (do holding [new, ov, iv] (setItem ov iv new); release [new, ov, iv] []; pure .next) := by intros; rfl) :
    JS X (.AugAssign (.Subscript (.Name x px) b p) op e pos) (aAugIx i f β α) := by
  obtain ⟨t, g1, g2⟩ := he.ex
  obtain ⟨tb, b1, b2⟩ := hb.ex
  refine ⟨_, ps_augS (pe_var hN hv hd hcd) b1 pget_list g1 ho set_list ha, fun B F0 M T env σ H F R0 A D l p => ?_⟩
  obtain ⟨ds, p1, p2⟩ := p
  obtain ⟨a, vs, e1, _⟩ := R0.ow i ds p1
  refine ⟨_, e1, b2 B F0 M T env σ H F R0 _ p2 _ fun v d H1 F1 s1 d1 p3 => ?_⟩
  obtain ⟨k, j, m, rfl, q1, q2, q3⟩ := p3
  cases d1
  have R1 := R0.step s1
  obtain ⟨ws, f1, f2⟩ := R1.owAt p1 e1
  obtain ⟨z, hz, rz⟩ := f2.get q2
  cases rz
  have hat : atI ws k = some (.int m) := by
    unfold atI
    rw [f2.len, q1]
    exact hz
  refine ⟨a, ws, k, _, rfl, rfl, .inl (.inl f1), hat, g2 B F0 M T env σ H1 F1 R1 _ q3 _ fun v d H2 F2 s2 d2 p4 => ?_⟩
  obtain ⟨n, rfl, p5⟩ := p4
  cases d2
  obtain ⟨ws', f1', f2'⟩ := (R1.step s2).owAt p1 e1
  exact ⟨m, n, rfl, rfl, a, ws', k, j, rfl, rfl, f1', by rw [f2'.len]; exact q1, l.nx T _ σ _ F2 ((R1.step s2).mut p1 e1 (f2'.set j (.int _))) p5⟩
end
end Ab

namespace Ab
open PySem PySem.Spec PyProof.Rows L2
section
variable {X : Cx} {e a b c : Expr} {es : List Expr} {pos p : Pos} {α β γ : AEx} {τ υ : ATx} {x : Str} {n : Nat}
theorem j_neg (ha : JE X a α) : JE X (.UnaryOp .USub a pos) (fun env P => α env fun x => ∃ i, x = .int i ∧ P (.int (-i))) := by
  obtain ⟨t, h1, h2⟩ := ha.ex
  refine ⟨_, pe_un un_neg h1, fun B F0 M T env σ H F R0 P p Q q => h2 B F0 M T env σ H F R0 _ p _ fun v d H1 F1 s1 d1 p1 => ?_⟩
  obtain ⟨i, rfl, p1⟩ := p1
  cases d1
  exact ⟨i, rfl, q _ _ H1 F1 s1 (.int _) p1⟩
theorem j_mulW (ha : JE X a α) (hb : JE X b β) : JE X (.BinOp a .Mult b pos) (aB (dIC IntMulOk fun i j => .int (i * j)) α β) := j_op (opI fun _ _ _ _ _ _ _ hc q => mul_int q hc) sr_intC ha hb
/-! the town -/
theorem tw_step {K : KW} {T : Tws K} {H F : Hp} {a : Addr} (b : Bs T H F) (t : T a) (kt : T.kd a = none) (p : Nat) (q : Int) : Stp T H F (upd H a (.lst [.int (p : Int), .int q])) F := by
  refine ⟨fun c o e => ?_, Sub.refl F, fun _ _ e => .inl e, fun c o e nt => ?_, fun c tc => ?_⟩
  · have : c ≠ a := fun z => by rw [z, (b.tw a t).1] at e; cases e
    rw [upd_ne this]; exact b.sub c o e
  · have : c ≠ a := fun z => nt (z ▸ t)
    rw [upd_ne this]; exact e
  · by_cases z : c = a
    · subst z; exact Tws.of_town ⟨p, q, upd_same⟩ kt
    · obtain ⟨x, y, w⟩ := Tws.town (b.tw a t).2 kt
      exact Tws.mono (b.tw c tc).2 z (.inr (by rw [w]; trivial))
/-- town[0], town[1] -/
def aTw0 (i : Nat) : AEx := fun env P => env[i]? = some .tw ∧ ∀ p : Nat, P (.int (p : Int))
def aTw1 (i : Nat) : AEx := fun env P => env[i]? = some .tw ∧ ∀ q : Int, P (.int q)
theorem j_tw0 (i : Nat) {px ps : Pos} {j : Nat} (hN : X.N[i]? = some x := by rfl) (hv : Vis X.env.scope x := by first | exact Or.inl rfl | exact Or.inr (Or.inl rfl) | exact Or.inr (Or.inr rfl)) (hd : (x == ("__debug__" : Str)) = false := by decide)
    (hcd : (x == ("__classdict__" : Str)) = false := by decide) (hs : PlainIx (.Constant (.int 0) j ps) := by intro _ _; rfl) : JE X (.Subscript (.Name x px) (.Constant (.int 0) j ps) pos) (aTw0 i) :=
  ⟨_, pe_ix ix_list (pe_var hN hv hd hcd) pe_int hs, fun B F0 M T env σ H F R0 P p Q q => by
    obtain ⟨a, t, kt, e1⟩ := R0.ti i _ p.1
    obtain ⟨x, y, z⟩ := Tws.town (R0.toGd.tw a t).2.1 kt
    exact ⟨_, e1, a, _, 0, .int (x : Int), rfl, rfl, .inl (.inl z), rfl, q _ _ H F (.refl R0.bs) (.int _) (p.2 x)⟩⟩
theorem j_tw1 (i : Nat) {px ps : Pos} {j : Nat} (hN : X.N[i]? = some x := by rfl) (hv : Vis X.env.scope x := by first | exact Or.inl rfl | exact Or.inr (Or.inl rfl) | exact Or.inr (Or.inr rfl)) (hd : (x == ("__debug__" : Str)) = false := by decide)
    (hcd : (x == ("__classdict__" : Str)) = false := by decide) (hs : PlainIx (.Constant (.int 1) j ps) := by intro _ _; rfl) : JE X (.Subscript (.Name x px) (.Constant (.int 1) j ps) pos) (aTw1 i) :=
  ⟨_, pe_ix ix_list (pe_var hN hv hd hcd) pe_int hs, fun B F0 M T env σ H F R0 P p Q q => by
    obtain ⟨a, t, kt, e1⟩ := R0.ti i _ p.1
    obtain ⟨x, y, z⟩ := Tws.town (R0.toGd.tw a t).2.1 kt
    exact ⟨_, e1, a, _, 1, .int y, rfl, rfl, .inl (.inl z), rfl, q _ _ H F (.refl R0.bs) (.int _) (p.2 y)⟩⟩
/-- town[1] = e -/
def aSetTw1 (i : Nat) (α : AEx) : ASx := fun A env => env[i]? = some .tw ∧ α env fun d => ∃ n, d = .int n ∧ A.nx env
theorem js_setTw1 (i : Nat) {px ps : Pos} {j : Nat} (he : JE X e α) (hN : X.N[i]? = some x := by rfl) (hv : Vis X.env.scope x := by first | exact Or.inl rfl | exact Or.inr (Or.inl rfl) | exact Or.inr (Or.inr rfl)) (hd : (x == ("__debug__" : Str)) = false := by decide)
    (hcd : (x == ("__classdict__" : Str)) = false := by decide) (ha : ∀ v, assign (.Subscript (.Name x px) (.Constant (.int 1) j ps) p) X.env v = (do
      let ov ← holding [v] (eval (.Name x px) X.env)
      let iv ← holding [v, ov] (eval (.Constant (.int 1) j ps) X.env)
      standAt p
      holding [v, ov, iv] (setItem ov iv v)
      release [v, ov, iv] []) := by intro _; rfl) (hs : swapsWithSole [.Subscript (.Name x px) (.Constant (.int 1) j ps) p] e pos.line X.env = pure false := by rfl) (hw : swappedStores [.Subscript (.Name x px) (.Constant (.int 1) j ps) p] e X.env = pure none := by rfl)
    (h1 : (assignEach [.Subscript (.Name x px) (.Constant (.int 1) j ps) p] X.env).map (·.2) = [assign (.Subscript (.Name x px) (.Constant (.int 1) j ps) p) X.env] := by rfl) : JS X (.Assign [.Subscript (.Name x px) (.Constant (.int 1) j ps) p] e pos) (aSetTw1 i α) := by
  obtain ⟨t, g1, g2⟩ := he.ex
  refine ⟨_, ps_asg g1 (pg_sub (pe_var hN hv hd hcd) pe_int set_list ha) hs hw h1, fun B F0 M T env σ H F R0 A D l p => g2 B F0 M T env σ H F R0 _ p.2 _ fun v d H1 F1 s1 d1 p1 => ?_⟩
  obtain ⟨n, rfl, p1⟩ := p1
  cases d1
  obtain ⟨a, t, kt, e1⟩ := R0.ti i _ p.1
  have R1 := R0.step s1
  obtain ⟨x, y, z⟩ := Tws.town (R1.toGd.tw a t).2.1 kt
  exact ⟨_, e1, a, _, 1, 1, rfl, rfl, z, rfl, l.nx T env σ _ F1 (R1.step (tw_step R1.bs t kt x n)) p1⟩
/-- town[0] += 1 -/
def aAugTw0 (i : Nat) : ASx := fun A env => env[i]? = some .tw ∧ A.nx env
theorem js_augTw0 (i : Nat) {px ps pc : Pos} {j j' : Nat} (hN : X.N[i]? = some x := by rfl) (hv : Vis X.env.scope x := by first | exact Or.inl rfl | exact Or.inr (Or.inl rfl) | exact Or.inr (Or.inr rfl)) (hd : (x == ("__debug__" : Str)) = false := by decide)
    (hcd : (x == ("__classdict__" : Str)) = false := by decide) (ha : ∀ ov iv new, augStore (.Constant (.int 0) j ps) ov iv new = (do holding [new, ov, iv] (setItem ov iv new); release [new, ov, iv] []; pure .next) := by intros; rfl) :
    JS X (.AugAssign (.Subscript (.Name x px) (.Constant (.int 0) j ps) p) .Add (.Constant (.int 1) j' pc) pos) (aAugTw0 i) := by
  refine ⟨_, ps_augS (pe_var hN hv hd hcd) pe_int pget_list pe_int ip_add set_list ha, fun B F0 M T env σ H F R0 A D l p => ?_⟩
  obtain ⟨a, t, kt, e1⟩ := R0.ti i _ p.1
  obtain ⟨x, y, z⟩ := Tws.town (R0.toGd.tw a t).2.1 kt
  exact ⟨_, e1, a, _, 0, .int (x : Int), rfl, rfl, .inl (.inl z), rfl, (x : Int), 1, rfl, rfl, a, _, 0, 0, rfl, rfl, z, rfl, l.nx T env σ _ F (R0.step (tw_step R0.bs t kt (x + 1) y)) p.2⟩
/-! the script -/
def aScLen (i : Nat) : AEx := fun env P => ∃ ns, env[i]? = some (.sc ns) ∧ P (.int (ns.length : Int))
theorem j_scLen (i : Nat) {y : Str} {px : Pos} (hm : X.mg y = none) (hv' : bootBuiltins y = some (.builtin "len")) (hg : Gl X y := by rfl) (hN : X.N[i]? = some x := by rfl) (hv : Vis X.env.scope x := by first | exact Or.inl rfl | exact Or.inr (Or.inl rfl) | exact Or.inr (Or.inr rfl)) (hd : (x == ("__debug__" : Str)) = false := by decide)
    (hcd : (x == ("__classdict__" : Str)) = false := by decide) (hn : y ≠ "__name__" := by decide) (hdb : (y == ("__debug__" : Str)) = false := by decide)
    (he : starEach [.Name x px] X.env = (false, eval (.Name x px) X.env) :: starEach [] X.env := by rfl) (hpl : (backTo pos (starEach [] X.env)).any (·.1) = false := by rfl) : JE X (.Call (.Name y p) [.Name x px] [] pos) (aScLen i) := by
  refine ⟨_, pe_callB call_len_seq hg hm hv' (pa_cons (pe_var hN hv hd hcd) pa_nil he) hn hdb he hpl, fun B F0 M T env σ H F R0 P p Q q => ?_⟩
  obtain ⟨ns, p1, p2⟩ := p
  obtain ⟨a, e1, e2⟩ := R0.sc i ns p1
  exact ⟨_, e1, a, _, rfl, .inl (R0.sub.seqL e2), by rw [List.length_map]; exact q _ _ H F (.refl R0.bs) (.int _) p2⟩
def aScIx (i : Nat) (β : AEx) : AEx := fun env P => ∃ ns, env[i]? = some (.sc ns) ∧ β env fun y => ∃ k m, y = .int k ∧ atI ns k = some m ∧ P (.int m)
theorem atI_map {α β : Type} {f : α → β} {xs : List α} {k : Int} {m : α} (h : atI xs k = some m) : atI (xs.map f) k = some (f m) := by
  unfold atI at h ⊢
  rw [List.length_map]
  cases e : ixN xs.length k with
  | none => rw [e] at h; cases h
  | some j =>
    rw [e] at h
    show (xs.map f)[j]? = _
    rw [List.getElem?_map, show xs[j]? = some m from h]
    rfl
theorem j_scIx (i : Nat) {px : Pos} (hb : JE X b β) (hN : X.N[i]? = some x := by rfl) (hv : Vis X.env.scope x := by first | exact Or.inl rfl | exact Or.inr (Or.inl rfl) | exact Or.inr (Or.inr rfl)) (hd : (x == ("__debug__" : Str)) = false := by decide)
    (hcd : (x == ("__classdict__" : Str)) = false := by decide) (hs : PlainIx b := by intro _ _; rfl) : JE X (.Subscript (.Name x px) b pos) (aScIx i β) := by
  obtain ⟨t, h1, h2⟩ := hb.ex
  refine ⟨_, pe_ix ix_list (pe_var hN hv hd hcd) h1 hs, fun B F0 M T env σ H F R0 P p Q q => ?_⟩
  obtain ⟨ns, p1, p2⟩ := p
  obtain ⟨a, e1, e2⟩ := R0.sc i ns p1
  refine ⟨_, e1, h2 B F0 M T env σ H F R0 _ p2 _ fun v d H1 F1 s1 d1 p3 => ?_⟩
  obtain ⟨k, m, rfl, p4, p5⟩ := p3
  cases d1
  exact ⟨a, _, k, .int m, rfl, rfl, (R0.step s1).sub.seqL (s1.ext.seqL e2), atI_map p4, q _ _ H1 F1 s1 (.int _) p5⟩
/-- script == [] -/
def aScNil (i : Nat) : ATx := fun env P => ∃ ns, env[i]? = some (.sc ns) ∧ P (decide (ns = []))
theorem ints_lay : ∀ ns : List Int, PyData.canLayAll0 (ns.map PyData.int) = true ∧ PyData.depthAll (ns.map PyData.int) = 0
  | [] => ⟨by simp [PyData.canLayAll0], by simp [PyData.depthAll]⟩
  | n :: ns => ⟨by simp [PyData.canLayAll0, PyData.canLay0, (ints_lay ns).1], by simp [PyData.depthAll, PyData.depth, (ints_lay ns).2]⟩
theorem shaped_ints {ns : List Int} : SeqAt.shaped (.list (ns.map PyData.int)) = true := by
  unfold SeqAt.shaped
  simp [PyData.canLay0, PyData.depth, (ints_lay ns).1, (ints_lay ns).2]
theorem jt_scNil (i : Nat) {px : Pos} {p1 : Pos} (hu : X.A.units + 64 < cLine) (hN : X.N[i]? = some x := by rfl) (hv : Vis X.env.scope x := by first | exact Or.inl rfl | exact Or.inr (Or.inl rfl) | exact Or.inr (Or.inr rfl)) (hd : (x == ("__debug__" : Str)) = false := by decide)
    (hcd : (x == ("__classdict__" : Str)) = false := by decide) : JT X (.Compare (.Name x px) [.Eq] [.List [] p1] pos) (aScNil i) := by
  refine ⟨_, pt_cmpR (op_eqD hu) (pe_var hN hv hd hcd) (pe_lst pa_nil) (nomark _), fun B F0 M T env σ H F R0 P p Q q => ?_⟩
  obtain ⟨ns, p1, p3⟩ := p
  obtain ⟨a, e1, e2⟩ := R0.sc i ns p1
  refine ⟨_, e1, Nat.zero_le _, fun l hl => ?_⟩
  have st : Stp T H F (upd H l (.lst [])) F := .al0 R0.bs hl
  have dp : ∀ ns : List Int, DpAll (kw X) (upd H l (.lst [])) (ns.map V.int) (ns.map PyData.int) := fun ns => RpAll.dp (K := kw X) _ (ints_lay ns).1 (of_ints ns)
  refine ⟨.list (ns.map PyData.int), .list [], .lst (st.sub.seqL e2) (dp ns), .lst (.inl (.inl upd_same)) .nil, shaped_ints, rfl, _, rfl, ?_⟩
  have e : PyData.eqv (.list (ns.map PyData.int)) (.list []) = decide (ns = []) := by
    cases ns <;> rfl
  rw [e]
  exact q _ _ F st p3
end
end Ab

namespace Ab
open PySem PySem.Spec PyProof.Rows L2
/-- data that == can be asked of: how deep -/
def Sh (n : Nat) (d : DD) : Prop := d.canLay0 = true ∧ d.depth ≤ n
theorem Sh.ok {n : Nat} {d : DD} (h : Sh n d) (hn : n ≤ 64 := by decide) : SeqAt.shaped d = true := by
  unfold SeqAt.shaped
  rw [h.1, decide_eq_true (Nat.le_trans h.2 hn)]
  rfl
theorem Sh.mono {n m : Nat} {d : DD} (h : Sh n d) (hn : n ≤ m) : Sh m d := ⟨h.1, Nat.le_trans h.2 hn⟩
theorem sh_all {n : Nat} : ∀ {xs : List DD}, (∀ x ∈ xs, Sh n x) → PyData.canLayAll0 xs = true ∧ PyData.depthAll xs ≤ n
  | [], _ => ⟨by simp [PyData.canLayAll0], by simp [PyData.depthAll]⟩
  | x :: xs, h => by
    obtain ⟨a, b⟩ := h x List.mem_cons_self
    obtain ⟨c, d⟩ := sh_all (xs := xs) fun y hy => h y (List.mem_cons_of_mem _ hy)
    exact ⟨by simp [PyData.canLayAll0, a, c], by simp only [PyData.depthAll]; omega⟩
theorem Sh.list {n : Nat} {xs : List DD} (h : ∀ x ∈ xs, Sh n x) : Sh (n + 1) (.list xs) := by
  obtain ⟨a, b⟩ := sh_all h
  exact ⟨by simp only [PyData.canLay0]; exact a, by simp only [PyData.depth]; omega⟩
theorem Sh.tup {n : Nat} {xs : List DD} (h : ∀ x ∈ xs, Sh n x) : Sh (n + 1) (.tuple xs) := by
  obtain ⟨a, b⟩ := sh_all h
  exact ⟨by simp only [PyData.canLay0]; exact a, by simp only [PyData.depth]; omega⟩
theorem Sh.int {n : Nat} {i : Int} : Sh n (.int i) := ⟨by simp only [PyData.canLay0], by simp [PyData.depth]⟩
theorem Sh.non {n : Nat} : Sh n .none := ⟨by simp only [PyData.canLay0], by simp [PyData.depth]⟩
theorem Sh.bool {n : Nat} {b : Bool} : Sh n (.bool b) := ⟨by simp only [PyData.canLay0], by simp [PyData.depth]⟩
theorem Sh.str {n : Nat} {x : Str} (h : PyData.strOk x = true := by decide +kernel) : Sh n (.str x) := ⟨by simp only [PyData.canLay0]; exact h, by simp [PyData.depth]⟩
theorem Sh.nil {n : Nat} : ∀ x ∈ ([] : List DD), Sh n x := fun x h => by cases h
theorem Sh.cons {n : Nat} {d : DD} {ds : List DD} (h : Sh n d) (g : ∀ x ∈ ds, Sh n x) : ∀ x ∈ d :: ds, Sh n x := fun x hx => by
  rcases List.mem_cons.mp hx with rfl | hx
  · exact h
  · exact g x hx
theorem Sh.map {α : Type} {n : Nat} {f : α → DD} {xs : List α} (h : ∀ x ∈ xs, Sh n (f x)) : ∀ x ∈ xs.map f, Sh n x := fun x hx => by
  obtain ⟨y, hy, rfl⟩ := List.mem_map.mp hx
  exact h y hy
theorem shi {i : Int} : SeqAt.shaped (.int i) = true := (Sh.int (n := 0)).ok
theorem shn : SeqAt.shaped .none = true := (Sh.non (n := 0)).ok
theorem shb {b : Bool} : SeqAt.shaped (.bool b) = true := (Sh.bool (n := 0)).ok
/-- equal data -/
theorem eqv_same {d : DD} {n : Nat} (h : Sh n d) : PyData.eqv d d = true := SeqAt.eqv_refl d h.1
theorem eqv_int {i j : Int} : PyData.eqv (.int i) (.int j) = decide (i = j) := by
  show (i == j) = _
  rw [Bool.beq_eq_decide_eq]
theorem eqv_str {i j : Str} : PyData.eqv (.str i) (.str j) = decide (i = j) := by
  show (i == j) = _
  rw [Bool.beq_eq_decide_eq]
theorem eqv_ni {j : Int} : PyData.eqv .none (.int j) = false := rfl
theorem eqv_in {j : Int} : PyData.eqv (.int j) .none = false := rfl
theorem eqv_nn : PyData.eqv .none .none = true := rfl
end Ab

/-! The crossing as mathematics. -/
namespace Lr
open PySem Ab
inductive Rule where
  | asked (n : Int) | clock (a b : Int) | due (n : Int) | empty (n : Int) | gap (i m : Int) | longer (n : Int)
  deriving DecidableEq
def Rule.d : Rule → DD
  | .asked n => .tuple [.str "asked", .int n]
  | .clock a b => .tuple [.str "clock", .int a, .int b]
  | .due n => .tuple [.str "due", .int n]
  | .empty n => .tuple [.str "empty", .int n]
  | .gap i m => .tuple [.str "gap", .int i, .int m]
  | .longer n => .tuple [.str "longer", .int n]
def N4 (n : Int) : Prop := 1 ≤ n ∧ n ≤ 4
def Rule.ok : Rule → Prop
  | .asked n => N4 n
  | .clock a b => N4 a ∧ N4 b
  | .due n => N4 n
  | .empty n => N4 n
  | .gap i m => N4 i ∧ N4 m
  | .longer n => N4 n
def crD (room pause : Int) : DD := .tuple [.int room, .int pause]
def CrOk (room pause : Int) : Prop := (1 ≤ room ∧ room ≤ 3) ∧ 0 ≤ pause ∧ pause ≤ 2
def lnD (a b : Int) : DD := .tuple [.int a, .int b]
/-- the line of a road -/
def ln (road a b : Int) : Int := if road = 0 then a else b
def changes : Rule → Int → Int → Int → Int → Int → Int → Bool
  | .clock x y, road, age, _, _, _, _ => decide (ln road x y ≤ age)
  | .asked n, road, age, _, _, a, b => decide (n ≤ age) && decide (0 < ln (1 - road) a b)
  | .empty n, road, age, _, _, a, b => decide (0 < ln (1 - road) a b) && (decide (ln road a b = 0) || decide (n ≤ age))
  | .longer n, road, age, _, _, a, b => decide (n ≤ age) && decide (ln road a b < ln (1 - road) a b)
  | .gap i m, road, age, rest, _, a, b => decide (0 < ln (1 - road) a b) && (decide (i ≤ rest) || decide (m ≤ age))
  | .due n, _, _, _, wait, _, _ => decide (n ≤ wait)
structure Sta where
  road : Int
  left : Int
  age : Int
  rest : Int
  wait : Int
  a : Int
  b : Int
  deriving DecidableEq
def Sta.d (s : Sta) : DD := .tuple [.int s.road, .int s.left, .int s.age, .int s.rest, .int s.wait, lnD s.a s.b]
def sta0 : Sta := ⟨0, 0, 0, 0, 0, 0, 0⟩
/-- a light as a datum: 2 for none -/
inductive Lt where
  | r (road : Int) | dark
  deriving DecidableEq
def Lt.d : Lt → DD
  | .r i => .int i
  | .dark => .none
def bit0 (c : Int) : Int := c % 2
def bit1 (c : Int) : Int := c / 2
def joinA (room l c : Int) : Int := min room (l + c)
structure Res where
  s : Sta
  light : Lt
  passed : Int
  lost : Int
/-- one tick -/
def tick (room pause : Int) (rule : Rule) (s : Sta) (c : Int) : Res :=
  let a1 := min room (s.a + bit0 c)
  let b1 := min room (s.b + bit1 c)
  let lost := (s.a + bit0 c) + (s.b + bit1 c) - (a1 + b1)
  let ch := decide (s.left = 0) && changes rule s.road s.age s.rest s.wait a1 b1
  let road := if ch then 1 - s.road else s.road
  let left0 := if ch then pause + 1 else s.left
  let age := if ch then 0 else s.age
  let rest := if ch then 0 else s.rest
  let wait := if ch then 0 else s.wait
  let left := max 0 (left0 - 1)
  let light := if left = 0 then Lt.r road else Lt.dark
  let passed := if left = 0 ∧ ln road a1 b1 ≠ 0 then 1 else 0
  let a2 := if left = 0 ∧ road = 0 then a1 - passed else a1
  let b2 := if left = 0 ∧ road ≠ 0 then b1 - passed else b1
  let age' := if left = 0 then age + 1 else age
  let rest' := if left = 0 then (if passed > 0 then 0 else rest + 1) else rest
  let wait' := if ln (1 - road) a2 b2 > 0 then wait + 1 else 0
  ⟨⟨road, left, age', rest', wait', a2, b2⟩, light, passed, lost⟩
def StaOk (room : Int) (s : Sta) : Prop := (s.road = 0 ∨ s.road = 1) ∧ 0 ≤ s.left ∧ (0 ≤ s.a ∧ s.a ≤ room) ∧ (0 ≤ s.b ∧ s.b ≤ room)
def ComOk (c : Int) : Prop := 0 ≤ c ∧ c ≤ 3
/-! ### what the defs promise -/
def W_join : Wt := fun as P => ∃ room a b c, as = [.va (.int room), .va (lnD a b), .va (.int c)] ∧ ComOk c ∧
  P (.tuple [lnD (min room (a + bit0 c)) (min room (b + bit1 c)), .int ((a + bit0 c) + (b + bit1 c) - (min room (a + bit0 c) + min room (b + bit1 c)))])
def W_leave : Wt := fun as P => ∃ (a b : Int) (l : Lt), as = [.va (lnD a b), .va l.d] ∧ (∀ r, l = .r r → r = 0 ∨ r = 1) ∧
  P (match l with
    | .dark => .tuple [lnD a b, .int 0]
    | .r r => if ln r a b = 0 then .tuple [lnD a b, .int 0] else if r = 0 then .tuple [lnD (a - 1) b, .int 1] else .tuple [lnD a (b - 1), .int 1])
def W_changes : Wt := fun as P => ∃ (rule : Rule) (road age rest wait a b : Int), as = [.va rule.d, .va (.int road), .va (.int age), .va (.int rest), .va (.int wait), .va (lnD a b)] ∧ (road = 0 ∨ road = 1) ∧ P (.bool (changes rule road age rest wait a b))
def W_first : Wt := fun as P => as = [] ∧ P sta0.d
def Res.d (r : Res) : DD := .tuple [r.s.d, r.light.d, .int r.passed, .int r.lost]
def W_tick : Wt := fun as P => ∃ room pause rule s c, as = [.va (crD room pause), .va (Rule.d rule), .va (Sta.d s), .va (.int c)] ∧ CrOk room pause ∧ StaOk room s ∧ ComOk c ∧ P (tick room pause rule s c).d
end Lr

namespace Ab
open PySem PySem.Spec PyProof.Rows L2
section
variable {α : Type} {a b c d e f g h : α} {xs : List α}
theorem at0 : atI (a :: xs) 0 = some a := by
  unfold atI ixN
  rw [if_pos (by decide), if_pos (by rw [List.length_cons]; omega)]; rfl
theorem at1 : atI (a :: b :: xs) 1 = some b := by
  unfold atI ixN
  rw [if_pos (by decide), if_pos (by rw [List.length_cons, List.length_cons]; omega)]; rfl
theorem at2 : atI (a :: b :: c :: xs) 2 = some c := by
  unfold atI ixN
  rw [if_pos (by decide), if_pos (by rw [List.length_cons, List.length_cons, List.length_cons]; omega)]; rfl
theorem at3 : atI (a :: b :: c :: d :: xs) 3 = some d := by
  unfold atI ixN
  rw [if_pos (by decide), if_pos (by rw [List.length_cons, List.length_cons, List.length_cons, List.length_cons]; omega)]; rfl
theorem atL2 : atI [a, b] (-1) = some b := rfl
theorem atL3 : atI [a, b, c] (-1) = some c := rfl
theorem atL6 : atI [a, b, c, d, e, f] (-1) = some f := rfl
theorem ix0 {n : Nat} : ixN (n + 1) 0 = some 0 := by
  unfold ixN
  rw [if_pos (by decide), if_pos (by omega)]; rfl
theorem ix1 {n : Nat} : ixN (n + 2) 1 = some 1 := by
  unfold ixN
  rw [if_pos (by decide), if_pos (by omega)]; rfl
end
/-! the abstract words, each reduced at once -/
section
variable {env : AE} {P : DD → Prop} {Pb : Bool → Prop} {PL : List DD → Prop} {A : AEnds} {α β γ : AEx} {τ υ : ATx} {δ : AOx} {s u : ASx}
theorem ex_int {i : Int} {Q : Int → Prop} : (∃ j, PyData.int i = PyData.int j ∧ Q j) ↔ Q i := ⟨fun ⟨j, e, q⟩ => by cases e; exact q, fun q => ⟨i, rfl, q⟩⟩
theorem ex_bool {i : Bool} {Q : Bool → Prop} : (∃ j, PyData.bool i = PyData.bool j ∧ Q j) ↔ Q i := ⟨fun ⟨j, e, q⟩ => by cases e; exact q, fun q => ⟨i, rfl, q⟩⟩
theorem dI_i {g : Int → Int → DD} {i j : Int} : dI g (.int i) (.int j) P ↔ P (g i j) := ⟨fun ⟨a, b, e1, e2, q⟩ => by cases e1; cases e2; exact q, fun q => ⟨i, j, rfl, rfl, q⟩⟩
theorem dIC_i {C : Int → Int → Prop} {g : Int → Int → DD} {i j : Int} : dIC C g (.int i) (.int j) P ↔ C i j ∧ P (g i j) := ⟨fun ⟨a, b, e1, e2, q⟩ => by cases e1; cases e2; exact q, fun q => ⟨i, j, rfl, rfl, q⟩⟩
theorem dIx_t {ds : List DD} {i : Int} : dIx (.tuple ds) (.int i) P ↔ ∃ d, atI ds i = some d ∧ P d := ⟨fun ⟨a, b, d, e1, e2, q⟩ => by
  cases e2
  rcases e1 with e | e <;> cases e
  exact ⟨d, q⟩, fun ⟨d, q⟩ => ⟨ds, i, d, .inr rfl, rfl, q⟩⟩
theorem dIx_l {ds : List DD} {i : Int} : dIx (.list ds) (.int i) P ↔ ∃ d, atI ds i = some d ∧ P d := ⟨fun ⟨a, b, d, e1, e2, q⟩ => by
  cases e2
  rcases e1 with e | e <;> cases e
  exact ⟨d, q⟩, fun ⟨d, q⟩ => ⟨ds, i, d, .inl rfl, rfl, q⟩⟩
theorem ex_some {α : Type} {a : α} {Q : α → Prop} : (∃ d, some a = some d ∧ Q d) ↔ Q a := ⟨fun ⟨j, e, q⟩ => by cases e; exact q, fun q => ⟨a, rfl, q⟩⟩
theorem aV_eq {i : Nat} : aV i env P ↔ ∃ d, env[i]? = some (.va d) ∧ P d := Iff.rfl
theorem ex_va {d : DD} {Q : DD → Prop} : (∃ d', some (Sl.va d) = some (Sl.va d') ∧ Q d') ↔ Q d := ⟨fun ⟨j, e, q⟩ => by cases e; exact q, fun q => ⟨d, rfl, q⟩⟩
theorem ex_ow {d : List DD} {Q : List DD → Prop} : (∃ d', some (Sl.ow d) = some (Sl.ow d') ∧ Q d') ↔ Q d := ⟨fun ⟨j, e, q⟩ => by cases e; exact q, fun q => ⟨d, rfl, q⟩⟩
theorem ex_sc {d : List Int} {Q : List Int → Prop} : (∃ d', some (Sl.sc d) = some (Sl.sc d') ∧ Q d') ↔ Q d := ⟨fun ⟨j, e, q⟩ => by cases e; exact q, fun q => ⟨d, rfl, q⟩⟩
theorem ex_list {d : List DD} {Q : List DD → Prop} : (∃ d', PyData.list d = PyData.list d' ∧ Q d') ↔ Q d := ⟨fun ⟨j, e, q⟩ => by cases e; exact q, fun q => ⟨d, rfl, q⟩⟩
theorem ex_tuple {d : List DD} {Q : List DD → Prop} : (∃ d', PyData.tuple d = PyData.tuple d' ∧ Q d') ↔ Q d := ⟨fun ⟨j, e, q⟩ => by cases e; exact q, fun q => ⟨d, rfl, q⟩⟩
theorem dMin2_i {i j : Int} : dMin2 [.int i, .int j] P ↔ P (.int (if j < i then j else i)) := ⟨fun ⟨a, b, e1, q⟩ => by cases e1; exact q, fun q => ⟨i, j, rfl, q⟩⟩
theorem dMax2_i {i j : Int} : dMax2 [.int i, .int j] P ↔ P (.int (if j > i then j else i)) := ⟨fun ⟨a, b, e1, q⟩ => by cases e1; exact q, fun q => ⟨i, j, rfl, q⟩⟩
theorem dSumT_2 {i j : Int} : dSumT [.tuple [.int i, .int j]] P ↔ P (.int (i + j)) := ⟨fun ⟨a, e1, q⟩ => by
  match a, e1 with
  | [x, y], e1 =>
    cases e1
    have : ([i, j] : List Int).sum = i + j := by simp
    rw [this] at q
    exact q, fun q => ⟨[i, j], rfl, by
    have : ([i, j] : List Int).sum = i + j := by simp
    rw [this]
    exact q⟩⟩
theorem dLen_l {xs : List DD} : dLen [.list xs] P ↔ P (.int xs.length) := ⟨fun ⟨a, e1, q⟩ => by rcases e1 with e | e <;> cases e; exact q, fun q => ⟨xs, .inl rfl, q⟩⟩
theorem dLen_t {xs : List DD} : dLen [.tuple xs] P ↔ P (.int xs.length) := ⟨fun ⟨a, e1, q⟩ => by rcases e1 with e | e <;> cases e; exact q, fun q => ⟨xs, .inr rfl, q⟩⟩
theorem dEq_i {i j : Int} : dEq (.int i) (.int j) P ↔ P (.bool (decide (i = j))) := ⟨fun ⟨_, _, q⟩ => by rw [eqv_int] at q; exact q, fun q => ⟨shi, shi, by rw [eqv_int]; exact q⟩⟩
theorem dNe_i {i j : Int} : dNe (.int i) (.int j) P ↔ P (.bool (!decide (i = j))) := ⟨fun ⟨_, _, q⟩ => by rw [eqv_int] at q; exact q, fun q => ⟨shi, shi, by rw [eqv_int]; exact q⟩⟩
theorem dEq_s {i j : Str} (h1 : PyData.strOk i = true) (h2 : PyData.strOk j = true) : dEq (.str i) (.str j) P ↔ P (.bool (decide (i = j))) := ⟨fun ⟨_, _, q⟩ => by rw [eqv_str] at q; exact q, fun q => ⟨(Sh.str (n := 0) h1).ok, (Sh.str (n := 0) h2).ok, by rw [eqv_str]; exact q⟩⟩
theorem dEq_ni {j : Int} : dEq .none (.int j) P ↔ P (.bool false) := ⟨fun ⟨_, _, q⟩ => q, fun q => ⟨shn, shi, q⟩⟩
theorem dEq_in {j : Int} : dEq (.int j) .none P ↔ P (.bool false) := ⟨fun ⟨_, _, q⟩ => q, fun q => ⟨shi, shn, q⟩⟩
theorem dIs_i {j : Int} : dIs (.int j) .none P ↔ P (.bool false) := ⟨fun ⟨_, q⟩ => q, fun q => ⟨rfl, q⟩⟩
theorem dIs_n : dIs .none .none P ↔ P (.bool true) := ⟨fun ⟨_, q⟩ => q, fun q => ⟨rfl, q⟩⟩
theorem dIsn_i {j : Int} : dIsn (.int j) .none P ↔ P (.bool true) := ⟨fun ⟨_, q⟩ => q, fun q => ⟨rfl, q⟩⟩
theorem dIsn_n : dIsn .none .none P ↔ P (.bool false) := ⟨fun ⟨_, q⟩ => q, fun q => ⟨rfl, q⟩⟩
theorem dCat_l {xs ys : List DD} : dCat (.list xs) (.list ys) PL ↔ xs.length + ys.length ≤ lineD ∧ PL (xs ++ ys) := ⟨fun ⟨a, b, e1, e2, q⟩ => by cases e1; cases e2; exact q, fun q => ⟨xs, ys, rfl, rfl, q⟩⟩
theorem dCatT_t {xs ys : List DD} : dCatT (.tuple xs) (.tuple ys) P ↔ xs.length + ys.length ≤ lineD ∧ P (.tuple (xs ++ ys)) := ⟨fun ⟨a, b, e1, e2, q⟩ => by cases e1; cases e2; exact q, fun q => ⟨xs, ys, rfl, rfl, q⟩⟩
theorem dListO_l {xs : List DD} : dListO [.list xs] PL ↔ PL xs := ⟨fun ⟨a, e1, q⟩ => by rcases e1 with e | e <;> cases e; exact q, fun q => ⟨xs, .inl rfl, q⟩⟩
theorem dListO_t {xs : List DD} : dListO [.tuple xs] PL ↔ PL xs := ⟨fun ⟨a, e1, q⟩ => by rcases e1 with e | e <;> cases e; exact q, fun q => ⟨xs, .inr rfl, q⟩⟩
theorem dTupleO_l {xs : List DD} : dTupleO [.list xs] P ↔ P (.tuple xs) := ⟨fun ⟨a, e1, q⟩ => by rcases e1 with e | e <;> cases e; exact q, fun q => ⟨xs, .inl rfl, q⟩⟩
theorem dTupleO_t {xs : List DD} : dTupleO [.tuple xs] P ↔ P (.tuple xs) := ⟨fun ⟨a, e1, q⟩ => by rcases e1 with e | e <;> cases e; exact q, fun q => ⟨xs, .inr rfl, q⟩⟩
theorem tgs2 {g : DD → AE → (AE → Prop) → Prop} {hs : List DD → AE → (AE → Prop) → Prop} {d : DD} {r : List DD} {Q : AE → Prop} : tgsCons g hs (d :: r) env Q ↔ g d env fun env' => hs r env' Q := ⟨fun ⟨a, b, e1, q⟩ => by cases e1; exact q, fun q => ⟨d, r, rfl, q⟩⟩
theorem tgs0 {Q : AE → Prop} : tgsNil [] env Q ↔ Q env := ⟨fun ⟨_, q⟩ => q, fun q => ⟨rfl, q⟩⟩
theorem tgt {n : Nat} {hs : List DD → AE → (AE → Prop) → Prop} {ds : List DD} {Q : AE → Prop} : tgTup n hs (.tuple ds) env Q ↔ ds.length = n ∧ hs ds env Q := ⟨fun ⟨a, e1, q⟩ => by cases e1; exact q, fun q => ⟨ds, rfl, q⟩⟩
theorem ite_t {p q : Prop} : ((true = true → p) ∧ (true = false → q)) ↔ p := ⟨fun h => h.1 rfl, fun h => And.intro (fun _ => h) (fun e => absurd e (by decide))⟩
theorem ite_f {p q : Prop} : ((false = true → p) ∧ (false = false → q)) ↔ q := ⟨fun h => h.2 rfl, fun h => And.intro (fun e => absurd e (by decide)) (fun _ => h)⟩
theorem par2 {i j : Nat} {d e : DD} {Q : AE → Prop} : (∃ d' e', [d, e] = [d', e'] ∧ Q ((env.set i (.va d')).set j (.va e'))) ↔ Q ((env.set i (.va d)).set j (.va e)) := ⟨fun ⟨a, b, e1, q⟩ => by cases e1; exact q, fun q => ⟨d, e, rfl, q⟩⟩
theorem par3 {i j k : Nat} {d e f : DD} {Q : AE → Prop} : (∃ d' e' f', [d, e, f] = [d', e', f'] ∧ Q (((env.set i (.va d')).set j (.va e')).set k (.va f'))) ↔ Q (((env.set i (.va d)).set j (.va e)).set k (.va f)) := ⟨fun ⟨a, b, c, e1, q⟩ => by cases e1; exact q, fun q => ⟨d, e, f, rfl, q⟩⟩
theorem ln0 : (0 ≤ lineD) ↔ True := iff_true_intro (by decide)
theorem ln1 : (0 + 1 ≤ lineD) ↔ True := iff_true_intro (by decide)
theorem ln2 : (0 + 1 + 1 ≤ lineD) ↔ True := iff_true_intro (by decide)
theorem ln3 : (0 + 1 + 1 + 1 ≤ lineD) ↔ True := iff_true_intro (by decide)
theorem ln4 : (0 + 1 + 1 + 1 + 1 ≤ lineD) ↔ True := iff_true_intro (by decide)
theorem ln5 : (0 + 1 + 1 + 1 + 1 + 1 ≤ lineD) ↔ True := iff_true_intro (by decide)
theorem ln6 : (0 + 1 + 1 + 1 + 1 + 1 + 1 ≤ lineD) ↔ True := iff_true_intro (by decide)
theorem ex_vaint {i : Int} {Q : Int → Prop} : (∃ m, some (Sl.va (.int i)) = some (Sl.va (.int m)) ∧ Q m) ↔ Q i := ⟨fun ⟨_, e, q⟩ => by cases e; exact q, fun q => ⟨i, rfl, q⟩⟩
theorem ex_l1i {i : Int} {Q : Int → Prop} : (∃ n, [PyData.int i] = [PyData.int n] ∧ Q n) ↔ Q i := ⟨fun ⟨_, e, q⟩ => by cases e; exact q, fun q => ⟨i, rfl, q⟩⟩
theorem ex_l1l {xs : List DD} {Q : List DD → Prop} : (∃ n, [PyData.list xs] = [PyData.list n] ∧ Q n) ↔ Q xs := ⟨fun ⟨_, e, q⟩ => by cases e; exact q, fun q => ⟨xs, rfl, q⟩⟩
theorem ex_l2l {xs ys : List DD} {Q : List DD → List DD → Prop} : (∃ n m, [PyData.list xs, PyData.list ys] = [PyData.list n, PyData.list m] ∧ Q n m) ↔ Q xs ys := ⟨fun ⟨_, _, e, q⟩ => by cases e; exact q, fun q => ⟨xs, ys, rfl, q⟩⟩
theorem cut2_1 {a b : DD} : cutD [a, b] none (some 1) = [a] := rfl
theorem cut2_2 {a b : DD} : cutD [a, b] none (some 2) = [a, b] := rfl
theorem ex_l1 {α : Type} {a : α} {Q : α → Prop} : (∃ d, [a] = [d] ∧ Q d) ↔ Q a := ⟨fun ⟨_, e, q⟩ => by cases e; exact q, fun q => ⟨a, rfl, q⟩⟩
theorem ex_l2 {α : Type} {a b : α} {Q : α → α → Prop} : (∃ d e, [a, b] = [d, e] ∧ Q d e) ↔ Q a b := ⟨fun ⟨_, _, e, q⟩ => by cases e; exact q, fun q => ⟨a, b, rfl, q⟩⟩
theorem ex_l3 {α : Type} {a b c : α} {Q : α → α → α → Prop} : (∃ d e f, [a, b, c] = [d, e, f] ∧ Q d e f) ↔ Q a b c := ⟨fun ⟨_, _, _, e, q⟩ => by cases e; exact q, fun q => ⟨a, b, c, rfl, q⟩⟩
theorem lineLe {n : Nat} (h : n ≤ 1000) : n ≤ lineD := Nat.le_trans h (by decide)
theorem lineLt {n : Nat} (h : n < 1000) : n < lineD := Nat.lt_of_lt_of_le h (by decide)
end
end Ab

namespace Lr
open PySem Ab
theorem com_cases {c : Int} (h : ComOk c) : c = 0 ∨ c = 1 ∨ c = 2 ∨ c = 3 := by unfold ComOk at h; omega
theorem band1 {c : Int} (h : ComOk c) : Builtin.bitAnd c 1 = bit0 c := by
  rcases com_cases h with rfl | rfl | rfl | rfl <;> decide
theorem ite_min {x r : Int} : (if x < r then x else r) = min r x := by
  by_cases h : x < r
  · rw [if_pos h]; omega
  · rw [if_neg h]; omega
theorem ite_max {x r : Int} : (if x > r then x else r) = max r x := by
  by_cases h : x > r
  · rw [if_pos h]; omega
  · rw [if_neg h]; omega
theorem wd_asked_asked {P : DD → Prop} : dEq (.str (Str.ofString "asked")) (.str (Str.ofString "asked")) P ↔ P (.bool true) := by rw [dEq_s (by decide +kernel) (by decide +kernel), show decide (Str.ofString "asked" = Str.ofString "asked") = true by decide +kernel]
theorem wd_asked_clock {P : DD → Prop} : dEq (.str (Str.ofString "asked")) (.str (Str.ofString "clock")) P ↔ P (.bool false) := by rw [dEq_s (by decide +kernel) (by decide +kernel), show decide (Str.ofString "asked" = Str.ofString "clock") = false by decide +kernel]
theorem wd_asked_due {P : DD → Prop} : dEq (.str (Str.ofString "asked")) (.str (Str.ofString "due")) P ↔ P (.bool false) := by rw [dEq_s (by decide +kernel) (by decide +kernel), show decide (Str.ofString "asked" = Str.ofString "due") = false by decide +kernel]
theorem wd_asked_empty {P : DD → Prop} : dEq (.str (Str.ofString "asked")) (.str (Str.ofString "empty")) P ↔ P (.bool false) := by rw [dEq_s (by decide +kernel) (by decide +kernel), show decide (Str.ofString "asked" = Str.ofString "empty") = false by decide +kernel]
theorem wd_asked_gap {P : DD → Prop} : dEq (.str (Str.ofString "asked")) (.str (Str.ofString "gap")) P ↔ P (.bool false) := by rw [dEq_s (by decide +kernel) (by decide +kernel), show decide (Str.ofString "asked" = Str.ofString "gap") = false by decide +kernel]
theorem wd_asked_longer {P : DD → Prop} : dEq (.str (Str.ofString "asked")) (.str (Str.ofString "longer")) P ↔ P (.bool false) := by rw [dEq_s (by decide +kernel) (by decide +kernel), show decide (Str.ofString "asked" = Str.ofString "longer") = false by decide +kernel]
theorem wd_clock_asked {P : DD → Prop} : dEq (.str (Str.ofString "clock")) (.str (Str.ofString "asked")) P ↔ P (.bool false) := by rw [dEq_s (by decide +kernel) (by decide +kernel), show decide (Str.ofString "clock" = Str.ofString "asked") = false by decide +kernel]
theorem wd_clock_clock {P : DD → Prop} : dEq (.str (Str.ofString "clock")) (.str (Str.ofString "clock")) P ↔ P (.bool true) := by rw [dEq_s (by decide +kernel) (by decide +kernel), show decide (Str.ofString "clock" = Str.ofString "clock") = true by decide +kernel]
theorem wd_clock_due {P : DD → Prop} : dEq (.str (Str.ofString "clock")) (.str (Str.ofString "due")) P ↔ P (.bool false) := by rw [dEq_s (by decide +kernel) (by decide +kernel), show decide (Str.ofString "clock" = Str.ofString "due") = false by decide +kernel]
theorem wd_clock_empty {P : DD → Prop} : dEq (.str (Str.ofString "clock")) (.str (Str.ofString "empty")) P ↔ P (.bool false) := by rw [dEq_s (by decide +kernel) (by decide +kernel), show decide (Str.ofString "clock" = Str.ofString "empty") = false by decide +kernel]
theorem wd_clock_gap {P : DD → Prop} : dEq (.str (Str.ofString "clock")) (.str (Str.ofString "gap")) P ↔ P (.bool false) := by rw [dEq_s (by decide +kernel) (by decide +kernel), show decide (Str.ofString "clock" = Str.ofString "gap") = false by decide +kernel]
theorem wd_clock_longer {P : DD → Prop} : dEq (.str (Str.ofString "clock")) (.str (Str.ofString "longer")) P ↔ P (.bool false) := by rw [dEq_s (by decide +kernel) (by decide +kernel), show decide (Str.ofString "clock" = Str.ofString "longer") = false by decide +kernel]
theorem wd_due_asked {P : DD → Prop} : dEq (.str (Str.ofString "due")) (.str (Str.ofString "asked")) P ↔ P (.bool false) := by rw [dEq_s (by decide +kernel) (by decide +kernel), show decide (Str.ofString "due" = Str.ofString "asked") = false by decide +kernel]
theorem wd_due_clock {P : DD → Prop} : dEq (.str (Str.ofString "due")) (.str (Str.ofString "clock")) P ↔ P (.bool false) := by rw [dEq_s (by decide +kernel) (by decide +kernel), show decide (Str.ofString "due" = Str.ofString "clock") = false by decide +kernel]
theorem wd_due_due {P : DD → Prop} : dEq (.str (Str.ofString "due")) (.str (Str.ofString "due")) P ↔ P (.bool true) := by rw [dEq_s (by decide +kernel) (by decide +kernel), show decide (Str.ofString "due" = Str.ofString "due") = true by decide +kernel]
theorem wd_due_empty {P : DD → Prop} : dEq (.str (Str.ofString "due")) (.str (Str.ofString "empty")) P ↔ P (.bool false) := by rw [dEq_s (by decide +kernel) (by decide +kernel), show decide (Str.ofString "due" = Str.ofString "empty") = false by decide +kernel]
theorem wd_due_gap {P : DD → Prop} : dEq (.str (Str.ofString "due")) (.str (Str.ofString "gap")) P ↔ P (.bool false) := by rw [dEq_s (by decide +kernel) (by decide +kernel), show decide (Str.ofString "due" = Str.ofString "gap") = false by decide +kernel]
theorem wd_due_longer {P : DD → Prop} : dEq (.str (Str.ofString "due")) (.str (Str.ofString "longer")) P ↔ P (.bool false) := by rw [dEq_s (by decide +kernel) (by decide +kernel), show decide (Str.ofString "due" = Str.ofString "longer") = false by decide +kernel]
theorem wd_empty_asked {P : DD → Prop} : dEq (.str (Str.ofString "empty")) (.str (Str.ofString "asked")) P ↔ P (.bool false) := by rw [dEq_s (by decide +kernel) (by decide +kernel), show decide (Str.ofString "empty" = Str.ofString "asked") = false by decide +kernel]
theorem wd_empty_clock {P : DD → Prop} : dEq (.str (Str.ofString "empty")) (.str (Str.ofString "clock")) P ↔ P (.bool false) := by rw [dEq_s (by decide +kernel) (by decide +kernel), show decide (Str.ofString "empty" = Str.ofString "clock") = false by decide +kernel]
theorem wd_empty_due {P : DD → Prop} : dEq (.str (Str.ofString "empty")) (.str (Str.ofString "due")) P ↔ P (.bool false) := by rw [dEq_s (by decide +kernel) (by decide +kernel), show decide (Str.ofString "empty" = Str.ofString "due") = false by decide +kernel]
theorem wd_empty_empty {P : DD → Prop} : dEq (.str (Str.ofString "empty")) (.str (Str.ofString "empty")) P ↔ P (.bool true) := by rw [dEq_s (by decide +kernel) (by decide +kernel), show decide (Str.ofString "empty" = Str.ofString "empty") = true by decide +kernel]
theorem wd_empty_gap {P : DD → Prop} : dEq (.str (Str.ofString "empty")) (.str (Str.ofString "gap")) P ↔ P (.bool false) := by rw [dEq_s (by decide +kernel) (by decide +kernel), show decide (Str.ofString "empty" = Str.ofString "gap") = false by decide +kernel]
theorem wd_empty_longer {P : DD → Prop} : dEq (.str (Str.ofString "empty")) (.str (Str.ofString "longer")) P ↔ P (.bool false) := by rw [dEq_s (by decide +kernel) (by decide +kernel), show decide (Str.ofString "empty" = Str.ofString "longer") = false by decide +kernel]
theorem wd_gap_asked {P : DD → Prop} : dEq (.str (Str.ofString "gap")) (.str (Str.ofString "asked")) P ↔ P (.bool false) := by rw [dEq_s (by decide +kernel) (by decide +kernel), show decide (Str.ofString "gap" = Str.ofString "asked") = false by decide +kernel]
theorem wd_gap_clock {P : DD → Prop} : dEq (.str (Str.ofString "gap")) (.str (Str.ofString "clock")) P ↔ P (.bool false) := by rw [dEq_s (by decide +kernel) (by decide +kernel), show decide (Str.ofString "gap" = Str.ofString "clock") = false by decide +kernel]
theorem wd_gap_due {P : DD → Prop} : dEq (.str (Str.ofString "gap")) (.str (Str.ofString "due")) P ↔ P (.bool false) := by rw [dEq_s (by decide +kernel) (by decide +kernel), show decide (Str.ofString "gap" = Str.ofString "due") = false by decide +kernel]
theorem wd_gap_empty {P : DD → Prop} : dEq (.str (Str.ofString "gap")) (.str (Str.ofString "empty")) P ↔ P (.bool false) := by rw [dEq_s (by decide +kernel) (by decide +kernel), show decide (Str.ofString "gap" = Str.ofString "empty") = false by decide +kernel]
theorem wd_gap_gap {P : DD → Prop} : dEq (.str (Str.ofString "gap")) (.str (Str.ofString "gap")) P ↔ P (.bool true) := by rw [dEq_s (by decide +kernel) (by decide +kernel), show decide (Str.ofString "gap" = Str.ofString "gap") = true by decide +kernel]
theorem wd_gap_longer {P : DD → Prop} : dEq (.str (Str.ofString "gap")) (.str (Str.ofString "longer")) P ↔ P (.bool false) := by rw [dEq_s (by decide +kernel) (by decide +kernel), show decide (Str.ofString "gap" = Str.ofString "longer") = false by decide +kernel]
theorem wd_longer_asked {P : DD → Prop} : dEq (.str (Str.ofString "longer")) (.str (Str.ofString "asked")) P ↔ P (.bool false) := by rw [dEq_s (by decide +kernel) (by decide +kernel), show decide (Str.ofString "longer" = Str.ofString "asked") = false by decide +kernel]
theorem wd_longer_clock {P : DD → Prop} : dEq (.str (Str.ofString "longer")) (.str (Str.ofString "clock")) P ↔ P (.bool false) := by rw [dEq_s (by decide +kernel) (by decide +kernel), show decide (Str.ofString "longer" = Str.ofString "clock") = false by decide +kernel]
theorem wd_longer_due {P : DD → Prop} : dEq (.str (Str.ofString "longer")) (.str (Str.ofString "due")) P ↔ P (.bool false) := by rw [dEq_s (by decide +kernel) (by decide +kernel), show decide (Str.ofString "longer" = Str.ofString "due") = false by decide +kernel]
theorem wd_longer_empty {P : DD → Prop} : dEq (.str (Str.ofString "longer")) (.str (Str.ofString "empty")) P ↔ P (.bool false) := by rw [dEq_s (by decide +kernel) (by decide +kernel), show decide (Str.ofString "longer" = Str.ofString "empty") = false by decide +kernel]
theorem wd_longer_gap {P : DD → Prop} : dEq (.str (Str.ofString "longer")) (.str (Str.ofString "gap")) P ↔ P (.bool false) := by rw [dEq_s (by decide +kernel) (by decide +kernel), show decide (Str.ofString "longer" = Str.ofString "gap") = false by decide +kernel]
theorem wd_longer_longer {P : DD → Prop} : dEq (.str (Str.ofString "longer")) (.str (Str.ofString "longer")) P ↔ P (.bool true) := by rw [dEq_s (by decide +kernel) (by decide +kernel), show decide (Str.ofString "longer" = Str.ofString "longer") = true by decide +kernel]
end Lr

namespace Lr
open PySem Ab
theorem Rule.d_inj : ∀ {r r' : Rule}, r.d = r'.d → r = r' := by
  intro r r' e
  have ne : ∀ {a b : Str} {x y : List DD}, a ≠ b → PyData.tuple (.str a :: x) ≠ PyData.tuple (.str b :: y) := fun h e => by
    injection e with e
    injection e with e _
    injection e with e
    exact h e
  cases r <;> cases r' <;> first
    | exact absurd e (ne (by decide +kernel))
    | (simp only [Rule.d, PyData.tuple.injEq, List.cons.injEq, PyData.int.injEq, and_true, true_and] at e; first | rw [e] | rw [e.1, e.2])
theorem lnD_inj {a b c d : Int} (e : lnD a b = lnD c d) : a = c ∧ b = d := by
  simp only [lnD, PyData.tuple.injEq, List.cons.injEq, PyData.int.injEq, and_true] at e
  exact e
theorem Sta.d_inj {s s' : Sta} (e : s.d = s'.d) : s = s' := by
  cases s; cases s'
  simp only [Sta.d, lnD, PyData.tuple.injEq, List.cons.injEq, PyData.int.injEq, and_true] at e
  obtain ⟨rfl, rfl, rfl, rfl, rfl, rfl, rfl⟩ := e
  rfl
theorem W_join_i {room a b c : Int} {P : DD → Prop} (hc : ComOk c) : W_join [.va (.int room), .va (lnD a b), .va (.int c)] P ↔ P (.tuple [lnD (min room (a + bit0 c)) (min room (b + bit1 c)), .int ((a + bit0 c) + (b + bit1 c) - (min room (a + bit0 c) + min room (b + bit1 c)))]) := by
  constructor
  · rintro ⟨r, a', b', c', e, _, q⟩
    simp only [lnD, List.cons.injEq, Sl.va.injEq, PyData.int.injEq, PyData.tuple.injEq, and_true] at e
    obtain ⟨rfl, ⟨rfl, rfl⟩, rfl⟩ := e
    exact q
  · intro q
    exact ⟨room, a, b, c, rfl, hc, q⟩
theorem W_changes_i {rule : Rule} {road age rest wait a b : Int} {P : DD → Prop} (hr : road = 0 ∨ road = 1) : W_changes [.va rule.d, .va (.int road), .va (.int age), .va (.int rest), .va (.int wait), .va (lnD a b)] P ↔ P (.bool (changes rule road age rest wait a b)) := by
  constructor
  · rintro ⟨r, x1, x2, x3, x4, x5, x6, e, _, q⟩
    simp only [lnD, List.cons.injEq, Sl.va.injEq, PyData.int.injEq, PyData.tuple.injEq, and_true] at e
    obtain ⟨e1, rfl, rfl, rfl, rfl, rfl, rfl⟩ := e
    rw [Rule.d_inj e1]
    exact q
  · intro q
    exact ⟨rule, road, age, rest, wait, a, b, rfl, hr, q⟩
theorem W_leave_n {a b : Int} {P : DD → Prop} : W_leave [.va (lnD a b), .va .none] P ↔ P (.tuple [lnD a b, .int 0]) := by
  constructor
  · rintro ⟨a', b', l, e, _, q⟩
    simp only [List.cons.injEq, Sl.va.injEq, and_true] at e
    obtain ⟨e1, e2⟩ := e
    obtain ⟨rfl, rfl⟩ := lnD_inj e1
    cases l with
    | dark => exact q
    | r i => cases e2
  · intro q
    exact ⟨a, b, .dark, rfl, (fun _ h => by cases h), q⟩
theorem W_leave_r {a b r : Int} {P : DD → Prop} (hr : r = 0 ∨ r = 1) : W_leave [.va (lnD a b), .va (.int r)] P ↔ ((ln r a b = 0 → P (.tuple [lnD a b, .int 0])) ∧ (¬ ln r a b = 0 → (r = 0 → P (.tuple [lnD (a - 1) b, .int 1])) ∧ (¬ r = 0 → P (.tuple [lnD a (b - 1), .int 1])))) := by
  have key : ((ln r a b = 0 → P (.tuple [lnD a b, .int 0])) ∧ (¬ ln r a b = 0 → (r = 0 → P (.tuple [lnD (a - 1) b, .int 1])) ∧ (¬ r = 0 → P (.tuple [lnD a (b - 1), .int 1])))) ↔ P (if ln r a b = 0 then .tuple [lnD a b, .int 0] else if r = 0 then .tuple [lnD (a - 1) b, .int 1] else .tuple [lnD a (b - 1), .int 1]) := by
    by_cases h : ln r a b = 0
    · simp [h]
    · by_cases h2 : r = 0
      · subst h2
        simp [h]
      · simp [h, h2]
  rw [key]
  constructor
  · rintro ⟨a', b', l, e, _, q⟩
    simp only [List.cons.injEq, Sl.va.injEq, and_true] at e
    obtain ⟨e1, e2⟩ := e
    obtain ⟨rfl, rfl⟩ := lnD_inj e1
    cases l with
    | dark => cases e2
    | r i => cases e2; exact q
  · intro q
    exact ⟨a, b, .r r, rfl, (fun _ h => by cases h; exact hr), q⟩
theorem W_first_i {P : DD → Prop} : W_first [] P ↔ P sta0.d := ⟨fun ⟨_, q⟩ => q, fun q => ⟨rfl, q⟩⟩
theorem W_tick_i {room pause c : Int} {rule : Rule} {s : Sta} {P : DD → Prop} (hc : CrOk room pause) (hs : StaOk room s) (hk : ComOk c) : W_tick [.va (crD room pause), .va rule.d, .va s.d, .va (.int c)] P ↔ P (tick room pause rule s c).d := by
  constructor
  · rintro ⟨r, p, ru, s', c', e, _, _, _, q⟩
    simp only [crD, List.cons.injEq, Sl.va.injEq, PyData.int.injEq, PyData.tuple.injEq, and_true] at e
    obtain ⟨⟨rfl, rfl⟩, e1, e2, rfl⟩ := e
    rw [Rule.d_inj e1, Sta.d_inj e2]
    exact q
  · intro q
    exact ⟨room, pause, rule, s, c, rfl, hc, hs, hk, q⟩
theorem dIx_ln {a b i : Int} {P : DD → Prop} : dIx (lnD a b) (.int i) P ↔ ∃ d, L2.atI [PyData.int a, .int b] i = some d ∧ P d := dIx_t
end Lr

namespace Ab
open PySem PySem.Spec PyProof.Rows L2
/-! ### isinstance of data -/
def tnD : DD → String
  | .none => "NoneType" | .bool _ => "bool" | .int _ => "int" | .str _ => "str" | .list _ => "list" | .tuple _ => "tuple" | .dict _ => "dict"
def isiD (T : String) (d : DD) : Bool := tnD d == T || (T == "int" && tnD d == "bool")
def TyY (K : PySem.W.Frag) (H : Hp) (x : V) (t : Value) : Prop := TyX K H x t ∨ ∃ a o, x = .ref a ∧ H a = some (KDo a o) ∧ o.ExactDict ∧ t = .type "dict"
theorem tyx_of {K : KW} {F H : Hp} (sb : Sub F H) {v : V} {d : DD} (h : Rp K F v d) : TyY K H v (.type (tnD d)) := by
  cases h with
  | non => exact .inl (.base .non)
  | bl b => exact .inl (.base (.bl b))
  | int i => exact .inl (.base (.int i))
  | str x => exact .inl (.base (.str x))
  | lst a b => exact .inl (.base (.lst (sb _ _ a)))
  | tup a b =>
    rcases a with (a | ⟨o, a⟩) | ⟨o, its, n, a, c, _⟩
    · exact .inl (.base (.tup (sb _ _ a)))
    · exact .inl (.fTuple (sb _ _ a))
    · exact .inl (.kTuple a c)
  | dct a b c => exact .inr ⟨_, _, rfl, sb _ _ a, b.1, rfl⟩
def rIsi2 (K : PySem.W.Frag) : List V → Hp → VK → Prop := fun xs H Q => ∃ (x c : V) (t u : Value) (b : Bool), xs = [x, c] ∧ ClsV c u ∧ TyY K H x t ∧ PySem.W.kitOne K t u = some b ∧ Q (.bl b) H
theorem call_isi2 {X : Cx} : CallR X (.builtin "isinstance") (rIsi2 X.K) := by
  intro pins s σ H xs us Q I r h
  obtain ⟨x, c, t, u, b, rfl, k, ty, e, q⟩ := h
  rcases ty with ty | ⟨a, o, rfl, ea, ex, rfl⟩
  · exact call_isi pins s σ H _ us Q I r ⟨x, c, t, u, b, rfl, k, ty, e, q⟩
  · obtain ⟨u1, u2, rfl, r1, r2⟩ := vals2 r
    have e2 := k.eq r2
    subst e2
    cases r1
    have ho : s.heap.get? a = some o := (I.hok a _ ea).1
    exact PySem.W.kia_one PySem.W.kitx_dict I.kIn ⟨o, ho, ex.1⟩ e (fun z => nomatch z) fun tk => ⟨.bl b, H, I.tok tk, rfl, q⟩
theorem kit_data {T : String} (hT : T = "int" ∨ T = "bool" ∨ T = "str" ∨ T = "list" ∨ T = "tuple") (d : DD) : kitB (tnD d) T = some (isiD T d) := by
  rcases hT with rfl | rfl | rfl | rfl | rfl <;> cases d <;> first | (show kitB _ _ = some _; decide +kernel) | rfl
section
variable {X : Cx} {e a b c : Expr} {es : List Expr} {pos p : Pos} {α β γ : AEx} {x y : Str}
def aIsi (T : String) (α : AEx) : AEx := fun env P => α env fun d => P (.bool (isiD T d))
theorem j_isi (T : String) {p2 : Pos} (hT : T = "int" ∨ T = "bool" ∨ T = "str" ∨ T = "list" ∨ T = "tuple") (hm : X.mg x = none) (hv : bootBuiltins x = some (.builtin "isinstance")) (hm2 : X.mg y = none) (hv2 : bootBuiltins y = some (.type T)) (he : JE X e α)
    (hg : Gl X x := by rfl) (hg2 : Gl X y := by rfl) (hn : x ≠ "__name__" := by decide) (hdb : (x == ("__debug__" : Str)) = false := by decide) (hn2 : y ≠ "__name__" := by decide) (hdb2 : (y == ("__debug__" : Str)) = false := by decide)
    (h1 : starEach [e, .Name y p2] X.env = (false, eval e X.env) :: starEach [.Name y p2] X.env := by rfl) (h2 : starEach [.Name y p2] X.env = (false, eval (.Name y p2) X.env) :: starEach [] X.env := by rfl) (hpl : (backTo pos (starEach [.Name y p2] X.env)).any (·.1) = false := by rfl) :
    JE X (.Call (.Name x p) [e, .Name y p2] [] pos) (aIsi T α) := by
  obtain ⟨t, a1, a2⟩ := he.ex
  refine ⟨_, pe_callB call_isi2 hg hm hv (pa_cons a1 (pa_cons (pe_bltn (v := .ty T) hg2 hm2 hv2 rfl hn2 hdb2) pa_nil h2) h1) hn hdb h1 hpl, fun B F0 M T' env σ H F R0 P p Q q => ?_⟩
  refine a2 B F0 M T' env σ H F R0 _ p _ fun v d H1 F1 s1 d1 p1 => ?_
  exact ⟨v, .ty T, _, _, isiD T d, rfl, .ty T, tyx_of s1.sub d1, kit_ty (kit_data hT d), q _ _ H1 F1 s1 (.bl _) p1⟩
/-! ### what the top has written: ints, tables with text keys -/
theorem j_glob {i : Int} (h : ∃ t, X.mg x = some (.int i t)) (hg : Gl X x := by rfl) (hdb : (x == ("__debug__" : Str)) = false := by decide) : JE X (.Name x pos) (aC (.int i)) := by
  obtain ⟨t, h⟩ := h
  exact ⟨_, pe_glob (v := .int i) hg h ⟨t, rfl⟩ hdb, sim_c fun _ => .int i⟩
structure Tbl (K : PySem.W.Frag) (w : World) (mg : Str → Option Value) (x : Str) (tb : List (Str × Int)) : Prop where
  ex : ∃ d es n, KDict K w d es n ∧ mg x = some (.ref d) ∧ ∀ p ∈ tb, ∃ t, PySem.W.nsIn K d p.1 = some (some (.int p.2 t))
def aNiTab (tb : List (Str × Int)) (α : AEx) : AEx := fun env P => α env fun y => ∃ z n, y = .str z ∧ (z, n) ∈ tb ∧ P (.bool false)
theorem sim_niTab {K : KW} {w : World} {d : Addr} {tb : List (Str × Int)} {t : TE} (ht : ∀ p ∈ tb, ∃ t, PySem.W.nsIn K d p.1 = some (some (.int p.2 t))) (h : SimE K t α) :
    SimE K (tOp (fun x y H Q => ∃ (z : Str) (r : Option Value), x = .str z ∧ y = .ref d ∧ PySem.W.nsIn K d z = some r ∧ Q (.bl (!r.isSome)) H) t (tC (.ref d))) (aNiTab tb α) := fun B F0 M T' env σ H F R0 P p Q q => by
  refine h B F0 M T' env σ H F R0 _ p _ fun v d1 H1 F1 s1 r1 p1 => ?_
  obtain ⟨z, m, rfl, hz, p1⟩ := p1
  obtain ⟨tk, ek⟩ := ht _ hz
  cases r1
  exact ⟨z, _, rfl, rfl, ek, q _ _ H1 F1 s1 (.bl _) p1⟩
theorem j_niTab {tb : List (Str × Int)} {p2 : Pos} (T : Tbl X.K X.w X.mg x tb) (he : JE X e α) (hg : Gl X x := by rfl) (hdb : (x == ("__debug__" : Str)) = false := by decide) (hm : behindInMarks .NotIn (.Name x p2) = false := by rfl) : JE X (.Compare e [.NotIn] [.Name x p2] pos) (aNiTab tb α) := by
  obtain ⟨d, es, n, D, gm, ht⟩ := T.ex
  obtain ⟨t, a1, a2⟩ := he.ex
  exact ⟨_, pe_cmpR (op_notIn_kd D) a1 (pe_glob (v := .ref d) hg gm rfl hdb) hm, sim_niTab (w := X.w) ht a2⟩
theorem jt_niTab {tb : List (Str × Int)} {p2 : Pos} (T : Tbl X.K X.w X.mg x tb) (he : JE X e α) (hg : Gl X x := by rfl) (hdb : (x == ("__debug__" : Str)) = false := by decide) (hm : behindInMarks .NotIn (.Name x p2) = false := by rfl) : JT X (.Compare e [.NotIn] [.Name x p2] pos) (aT (aNiTab tb α)) := by
  obtain ⟨d, es, n, D, gm, ht⟩ := T.ex
  obtain ⟨t, a1, a2⟩ := he.ex
  exact ⟨_, pt_cmpR (op_notIn_kd D) a1 (pe_glob (v := .ref d) hg gm rfl hdb) hm, sim_test (sim_niTab (w := X.w) ht a2)⟩
def aIxTab (tb : List (Str × Int)) (α : AEx) : AEx := fun env P => α env fun y => ∃ z n, y = .str z ∧ (z, n) ∈ tb ∧ P (.int n)
theorem j_ixTab {tb : List (Str × Int)} {p2 : Pos} (T : Tbl X.K X.w X.mg x tb) (he : JE X e α) (hg : Gl X x := by rfl) (hdb : (x == ("__debug__" : Str)) = false := by decide) (hs : PlainIx e := by intro _ _; rfl) : JE X (.Subscript (.Name x p2) e pos) (aIxTab tb α) := by
  obtain ⟨d, es, n, D, gm, ht⟩ := T.ex
  obtain ⟨t, a1, a2⟩ := he.ex
  refine ⟨_, pe_ix ix_kdict (pe_glob (v := .ref d) hg gm rfl hdb) a1 hs, fun B F0 M T' env σ H F R0 P p Q q => ?_⟩
  refine a2 B F0 M T' env σ H F R0 _ p _ fun v d1 H1 F1 s1 r1 p1 => ?_
  obtain ⟨z, m, rfl, hz, p1⟩ := p1
  obtain ⟨tk, ek⟩ := ht _ hz
  cases r1
  exact ⟨d, z, .int m, rfl, rfl, ⟨es, n, _, D.at_, D.lit, ek, ⟨tk, rfl⟩⟩, q _ _ H1 F1 s1 (.int _) p1⟩
end
/-! ### x, *y = a tuple -/
section
variable {prog : Program} {w : World} {A : Around} {E : Value → Shared → Prop} {s : Shared}
theorem star_tup {l : Addr} {x : Value} {r : List Value} {Q : List Value → Shared → Prop} (hl : IsTup s.heap l (x :: r).toArray) (hh : A.handled = none) (hz : r.length ≤ 10000)
    (h : ∀ (h' : Heap) (tk : Nat), (∀ b o, s.heap.get? b = some o → h'.get? b = some o) → Q [x, .ref h'.objs.size] { s with heap := h'.push { cls := .type "list", data := .seq r.toArray }, toks := tk }) : wpAny (model prog w) A (unpackItems (.ref l) 2 (some 1)) Q E s := by
  have h0 : l < s.heap.objs.size := hl.lt
  have hne : l ≠ s.heap.objs.size := Nat.ne_of_lt h0
  unfold unpackItems
  apply wpAny_bind
  unfold notIterableAtAll
  apply wpAny_bind
  apply wpAny_specialOf hl.typeIs slot_tuple_iter.lookup
  apply wpAny_pure
  simp only [Bool.false_eq_true, if_false]
  refine wpAny_bind (wpAny_holding (iter_tuple hl (wpAny_bind (wpAny_holding (draw_tuple hne 1 0 _ _ ⟨_, Heap.get?_push_size _ rfl, rfl, rfl⟩ (hl.push _) (by simp) fun h1 it1 sm => ?_)))))
  have hl1 : IsTup h1 l (x :: r).toArray := (hl.push _).extBut sm.extBut hne
  rw [Nat.zero_add] at it1
  obtain ⟨oi, ei, _⟩ := id it1
  obtain ⟨ol, el, _⟩ := id hl1
  have ez : (x :: r).toArray.size = r.length + 1 := by simp
  rw [if_neg (by simp)]
  refine wpAny_bind (wpAny_holding (PySem.W.kun_collect (s := { s with heap := h1 }) (T := "tuple_iterator") (.inr (.inr (.inr rfl))) (Walks.tuple (A := A.in1) hh s.heap.objs.size l hne (x :: r).toArray) (fun j u st => st.1.typeIs) (k := 1) (by rw [ez]; omega)
    ⟨it1, hl1⟩ (Heap.lt_size ei) (Heap.lt_size el) (fun h2 tk hk => ?_) (by rw [ez, sizeLine_eq]; omega)))
  have e1 : ((x :: r).toArray.toList.drop 1) = r := rfl
  have e2 : (((x :: r).toArray.toList.drop 0).take 1) = [x] := rfl
  rw [e1, e2]
  show wpAny _ _ (if r.length < 2 - 1 - 1 then _ else _) _ _ _
  rw [if_neg (by omega)]
  have e3 : r.length - (2 - 1 - 1) = r.length := by omega
  show wpAny _ _ (newList (r.take (r.length - (2 - 1 - 1))) >>= fun d => pure ([x] ++ [d] ++ r.drop (r.length - (2 - 1 - 1)))) _ _ _
  rw [e3, List.take_length, List.drop_length]
  refine wpAny_bind (wpAny_newList (wpAny_pure ?_) (by rw [sizeLine_eq]; omega))
  exact h h2 tk fun b o e => hk b o (Nat.ne_of_lt (Heap.lt_size e)) (sm.extBut b o (Nat.ne_of_lt (Heap.lt_size e)) (Heap.get?_push_of_some _ e))
end
section
variable {X : Cx} {e a b c : Expr} {pos p : Pos} {α β γ : AEx} {x y : Str}
def gStar (K : KW) (i j : Nat) : TG := fun v σ H Q => ∃ a u vs, v = .ref a ∧ SqT K H a (u :: vs) ∧ vs.length ≤ 10000 ∧ ∀ q, H q = none → Q ((σ.set i (some u)).set j (some (.ref q))) (upd H q (.lst vs))
theorem pg_star {i j : Nat} {px py ps : Pos} {k : Nat} (hc : X.calm = true) (nd : X.N.Nodup) (hi : X.N[i]? = some x) (hj : X.N[j]? = some y) (hx : Loc X.env.scope x) (hy : Loc X.env.scope y)
    (hfx : X.fn x = true ∨ X.env.scope.names.lookup x = some .local) (hfy : X.fn y = true ∨ X.env.scope.names.lookup y = some .local) : PG X (.Tuple [.Name x px, .Starred (.Name y py) ps] k pos) (gStar (kw X) i j) := by
  refine ⟨fun pins s σ H v u Q I r h => ?_⟩
  obtain ⟨a, u0, vs, rfl, hs, hl, q⟩ := h
  cases r
  obtain ⟨its, rv, ht, hz⟩ := I.tuple hs
  cases rv with
  | @cons _ u1 _ us ru rr =>
    rw [arm_assign_Tuple]
    refine wpAny_bind (wpAny_standAt ?_)
    show wpAny _ _ (unpack (.ref a) [(false, assign (.Name x px) X.env), (true, assign (.Name y py) X.env)]) _ _ _
    unfold unpack
    have hlen : us.length ≤ 10000 := by rw [← rr.length]; exact hl
    refine wpAny_bind (wpAny_holding (star_tup ht (I.ok.hd hc) hlen fun h' tk hk => ?_))
    have I1 : Inv X pins σ H { s with heap := h', toks := tk } := I.kept hk
    have I2 := I1.lnew (t' := tk) rr (by rw [sizeLine_eq]; omega)
    have fr := I1.fresh
    refine assignInOrder_cons (wpAny_assign_Name (store_ok I2 nd hi hx ru (fun s2 I3 => ?_) hfx))
    refine assignInOrder_cons (wpAny_assign_Name (store_ok (v := .ref h'.objs.size) I3 nd hj hy rfl (fun s3 I4 => ?_) hfy))
    exact assignInOrder_nil ⟨_, _, I4, q _ fr⟩
def tgStar (i j : Nat) : DD → AE → (AE → Prop) → Prop := fun d env P => ∃ x xs, d = .tuple (x :: xs) ∧ xs.length ≤ 1000 ∧ P ((env.set i (.va x)).set j (.va (.list xs)))
theorem jg_star (i j : Nat) {px py ps : Pos} {k : Nat} (hc : X.calm = true) (nd : X.N.Nodup) (hi : X.N[i]? = some x := by rfl) (hj : X.N[j]? = some y := by rfl) (hx : Loc X.env.scope x := by first | exact Or.inl rfl | exact Or.inr rfl) (hy : Loc X.env.scope y := by first | exact Or.inl rfl | exact Or.inr rfl)
    (hfx : X.fn x = true ∨ X.env.scope.names.lookup x = some .local := by first | exact .inl rfl | exact .inr rfl) (hfy : X.fn y = true ∨ X.env.scope.names.lookup y = some .local := by first | exact .inl rfl | exact .inr rfl) : JG X (.Tuple [.Name x px, .Starred (.Name y py) ps] k pos) (tgStar i j) :=
  ⟨_, pg_star hc nd hi hj hx hy hfx hfy, fun B F0 M T env σ H F R0 v d hd P p Q q => by
    obtain ⟨x0, xs, rfl, hl, p⟩ := p
    cases hd with
    | tup g1 g2 =>
      cases g2 with
      | @cons v0 vs _ _ r1 r2 =>
        refine ⟨_, v0, vs, rfl, R0.sub.seqT g1, by rw [r2.len]; omega, fun c hc => ?_⟩
        have st : Stp T H F (upd H c (.lst vs)) (upd F c (.lst vs)) := .al R0.bs hc
        exact q _ _ _ _ st (((R0.step st).put (Rp.sub st.ext _ r1) _ rfl).put (.lst upd_same (RpAll.sub st.ext _ r2)) _ rfl) p⟩
end
/-! ### loops and comprehensions by their data -/
theorem loop_inv {g : DD → AE → (AE → Prop) → Prop} {s : ASx} {A : AEnds} (I : List DD → AE → Prop) (step : ∀ d ds env (N : AE → Prop), I (d :: ds) env → (∀ e, I ds e → N e) → g d env fun env' => s { A with nx := N, ct := N, bk := A.nx } env') (done : ∀ env, I [] env → A.nx env) :
    ∀ ds env, I ds env → aLoop g s A ds env
  | [], env, h => done env h
  | d :: ds, env, h => step d ds env (aLoop g s A ds) h fun e he => loop_inv I step done ds e he
theorem coll_map {i : Nat} {α : AEx} {env : AE} {P : List DD → Prop} (f : DD → DD) : ∀ (ds acc : List DD), (∀ d ∈ ds, ∀ Q : DD → Prop, Q (f d) → α (env.set i (.va d)) Q) → P (acc ++ ds.map f) → aColl (tgN i) aYes α env P ds acc
  | [], acc, _, h => by
    rw [List.map_nil, List.append_nil] at h
    exact h
  | d :: ds, acc, hf, h => by
    refine ⟨fun _ => hf d List.mem_cons_self _ (coll_map f ds (acc ++ [f d]) (fun e he => hf e (List.mem_cons_of_mem _ he)) ?_), fun z => by cases z⟩
    rw [List.append_assoc]
    exact h
theorem coll_filter {i : Nat} {τ : ATx} {α : AEx} {env : AE} {P : List DD → Prop} (b : DD → Bool) (f : DD → DD) : ∀ (ds acc : List DD), (∀ d ∈ ds, ∀ Q : Bool → Prop, Q (b d) → τ (env.set i (.va d)) Q) → (∀ d ∈ ds, b d = true → ∀ Q : DD → Prop, Q (f d) → α (env.set i (.va d)) Q) → P (acc ++ (ds.filter b).map f) → aColl (tgN i) τ α env P ds acc
  | [], acc, _, _, h => by
    rw [List.filter_nil, List.map_nil, List.append_nil] at h
    exact h
  | d :: ds, acc, hb, hf, h => by
    refine hb d List.mem_cons_self _ ⟨fun z => hf d List.mem_cons_self z _ (coll_filter b f ds (acc ++ [f d]) (fun e he => hb e (List.mem_cons_of_mem _ he)) (fun e he => hf e (List.mem_cons_of_mem _ he)) ?_), fun z => coll_filter b f ds acc (fun e he => hb e (List.mem_cons_of_mem _ he)) (fun e he => hf e (List.mem_cons_of_mem _ he)) ?_⟩
    · rw [List.filter_cons, if_pos z, List.map_cons] at h
      rw [List.append_assoc]
      exact h
    · rw [List.filter_cons, if_neg (by rw [z]; decide)] at h
      exact h
/-- the same where what an item gives is known by a law of its own (draws) -/
theorem coll_some {i : Nat} {α : AEx} {env : AE} {P : List DD → Prop} (ok : DD → DD → Prop) : ∀ (ds acc : List DD), (∀ d ∈ ds, ∀ Q : DD → Prop, (∀ y, ok d y → Q y) → α (env.set i (.va d)) Q) → (∀ ys, Paired ok ds ys → P (acc ++ ys)) → aColl (tgN i) aYes α env P ds acc
  | [], acc, _, h => by
    have := h [] .nil
    rw [List.append_nil] at this
    exact this
  | d :: ds, acc, hf, h => by
    refine ⟨fun _ => hf d List.mem_cons_self _ fun y hy => coll_some ok ds (acc ++ [y]) (fun e he => hf e (List.mem_cons_of_mem _ he)) fun ys hys => ?_, fun z => by cases z⟩
    rw [List.append_assoc]
    exact h (y :: ys) (.cons hy hys)
end Ab

namespace Lr
open PySem Ab
def isNum (lo hi : Int) : DD → Bool
  | .int i => decide (lo ≤ i) && decide (i ≤ hi)
  | _ => false
def isCr : DD → Bool
  | .tuple [a, b] => isNum 1 3 a && isNum 0 2 b
  | _ => false
def areCo : DD → Bool
  | .list xs => decide (xs.length ≤ 40) && xs.all (isNum 0 3)
  | _ => false
def nbT : List (Str × Int) := [("asked", 1), ("clock", 2), ("due", 1), ("empty", 1), ("gap", 2), ("longer", 1)]
def nbGet (z : Str) : Option Int := (nbT.find? fun p => decide (p.1 = z)).map (·.2)
def isRule : DD → Bool
  | .tuple (.str z :: ns) => match nbGet z with
    | some n => decide ((ns.length : Int) = n) && ns.all (isNum 1 4)
    | none => false
  | _ => false
theorem nb_get {z : Str} {n : Int} (h : (z, n) ∈ nbT) : nbGet z = some n := by
  simp only [nbT, List.mem_cons, Prod.mk.injEq, List.not_mem_nil, or_false] at h
  rcases h with ⟨rfl, rfl⟩ | ⟨rfl, rfl⟩ | ⟨rfl, rfl⟩ | ⟨rfl, rfl⟩ | ⟨rfl, rfl⟩ | ⟨rfl, rfl⟩ <;> decide +kernel
/-- what may be asked of is_rule: a tuple that begins with a text begins with a word of the table -/
def RuleAsk (d : DD) : Prop := (∀ xs, d = .tuple xs → xs.length ≤ 100) ∧ ∀ z ns, d = .tuple (.str z :: ns) → ∃ n, (z, n) ∈ nbT
def W_is_number : Wt := fun as P => ∃ d lo hi, as = [.va d, .va (.int lo), .va (.int hi)] ∧ P (.bool (isNum lo hi d))
def W_is_crossing : Wt := fun as P => ∃ d, as = [.va d] ∧ (∀ xs, d = .tuple xs → xs.length ≤ 100) ∧ P (.bool (isCr d))
def W_is_rule : Wt := fun as P => ∃ d, as = [.va d] ∧ RuleAsk d ∧ P (.bool (isRule d))
def W_are_comings : Wt := fun as P => ∃ d, as = [.va d] ∧ (∀ xs, d = .list xs → xs.length ≤ 1000) ∧ P (.bool (areCo d))
def W_ck_cr : Wt := fun as P => ∃ room pause, as = [.va (crD room pause)] ∧ CrOk room pause ∧ P .none
def W_ck_ru : Wt := fun as P => ∃ rule : Rule, as = [.va rule.d] ∧ rule.ok ∧ P .none
def coD (cs : List Int) : DD := .list (cs.map PyData.int)
def CosOk (cs : List Int) : Prop := cs.length ≤ 40 ∧ ∀ c ∈ cs, ComOk c
def W_ck_co : Wt := fun as P => ∃ cs, as = [.va (coD cs)] ∧ CosOk cs ∧ P .none
theorem W_is_number_i {d : DD} {lo hi : Int} {P : DD → Prop} : W_is_number [.va d, .va (.int lo), .va (.int hi)] P ↔ P (.bool (isNum lo hi d)) := by
  constructor
  · rintro ⟨d', l, h, e, q⟩
    simp only [List.cons.injEq, Sl.va.injEq, PyData.int.injEq, and_true] at e
    obtain ⟨rfl, rfl, rfl⟩ := e
    exact q
  · intro q
    exact ⟨d, lo, hi, rfl, q⟩
theorem W_is_crossing_i {d : DD} {P : DD → Prop} (h : ∀ xs, d = .tuple xs → xs.length ≤ 100) : W_is_crossing [.va d] P ↔ P (.bool (isCr d)) :=
  ⟨fun ⟨d', e, _, q⟩ => by simp only [List.cons.injEq, Sl.va.injEq, and_true] at e; subst e; exact q, fun q => ⟨d, rfl, h, q⟩⟩
theorem W_is_rule_i {d : DD} {P : DD → Prop} (h : RuleAsk d) : W_is_rule [.va d] P ↔ P (.bool (isRule d)) :=
  ⟨fun ⟨d', e, _, q⟩ => by simp only [List.cons.injEq, Sl.va.injEq, and_true] at e; subst e; exact q, fun q => ⟨d, rfl, h, q⟩⟩
theorem W_are_comings_i {d : DD} {P : DD → Prop} (h : ∀ xs, d = .list xs → xs.length ≤ 1000) : W_are_comings [.va d] P ↔ P (.bool (areCo d)) :=
  ⟨fun ⟨d', e, _, q⟩ => by simp only [List.cons.injEq, Sl.va.injEq, and_true] at e; subst e; exact q, fun q => ⟨d, rfl, h, q⟩⟩
theorem isCr_ok {room pause : Int} (h : CrOk room pause) : isCr (crD room pause) = true := by
  obtain ⟨⟨h1, h2⟩, h3, h4⟩ := h
  simp [isCr, crD, isNum, h1, h2, h3, h4]
theorem n4 {n : Int} (h : N4 n) : isNum 1 4 (.int n) = true := by simp [isNum, h.1, h.2]
theorem isRule_ok {r : Rule} (h : r.ok) : isRule r.d = true := by
  cases r with
  | asked n => simp [isRule, Rule.d, n4 h, nb_get (z := "asked") (n := 1) (by decide +kernel)]
  | clock a b => simp [isRule, Rule.d, n4 h.1, n4 h.2, nb_get (z := "clock") (n := 2) (by decide +kernel)]
  | due n => simp [isRule, Rule.d, n4 h, nb_get (z := "due") (n := 1) (by decide +kernel)]
  | empty n => simp [isRule, Rule.d, n4 h, nb_get (z := "empty") (n := 1) (by decide +kernel)]
  | gap i m => simp [isRule, Rule.d, n4 h.1, n4 h.2, nb_get (z := "gap") (n := 2) (by decide +kernel)]
  | longer n => simp [isRule, Rule.d, n4 h, nb_get (z := "longer") (n := 1) (by decide +kernel)]
theorem ruleAsk_ok {r : Rule} : RuleAsk r.d := by
  refine ⟨fun xs e => ?_, fun z ns e => ?_⟩
  · cases r <;> (simp only [Rule.d, PyData.tuple.injEq] at e; subst e; simp)
  · cases r with
    | asked n => cases e; exact ⟨1, by decide +kernel⟩
    | clock a b => cases e; exact ⟨2, by decide +kernel⟩
    | due n => cases e; exact ⟨1, by decide +kernel⟩
    | empty n => cases e; exact ⟨1, by decide +kernel⟩
    | gap i m => cases e; exact ⟨2, by decide +kernel⟩
    | longer n => cases e; exact ⟨1, by decide +kernel⟩
theorem areCo_ok {cs : List Int} (h : CosOk cs) : areCo (coD cs) = true := by
  unfold areCo coD
  simp only [List.length_map, List.all_map, Bool.and_eq_true, decide_eq_true_eq, List.all_eq_true, Function.comp]
  exact ⟨h.1, fun c hc => by simp [isNum, (h.2 c hc).1, (h.2 c hc).2]⟩
/-! ### a row of ticks -/
def run (room pause : Int) (rule : Rule) : Sta → List Int → List Res
  | _, [] => []
  | s, c :: cs => tick room pause rule s c :: run room pause rule (tick room pause rule s c).s cs
theorem run_len {room pause : Int} {rule : Rule} : ∀ (cs : List Int) (s : Sta), (run room pause rule s cs).length = cs.length
  | [], _ => rfl
  | c :: cs, s => by rw [run, List.length_cons, List.length_cons, run_len cs]
def lnR (r : Res) : DD := lnD r.s.a r.s.b
def cnR (r : Res) : DD := .tuple [.int r.passed, .int r.lost]
def tkD (r : Res) : DD := .tuple [r.light.d, lnR r, cnR r]
theorem tick_ok {room pause : Int} {rule : Rule} {s : Sta} {c : Int} (hc : CrOk room pause) (hs : StaOk room s) (hk : ComOk c) : StaOk room (tick room pause rule s c).s := by
  obtain ⟨⟨h1, h2⟩, h3, h4⟩ := hc
  obtain ⟨hr, hl, ⟨ha, ha'⟩, hb, hb'⟩ := hs
  have b0 : 0 ≤ bit0 c := by unfold bit0; omega
  have b1 : 0 ≤ bit1 c := by unfold bit1; have := hk.1; omega
  unfold tick StaOk
  simp only []
  generalize (decide (s.left = 0) && changes rule s.road s.age s.rest s.wait (min room (s.a + bit0 c)) (min room (s.b + bit1 c))) = ch
  have m1 : 0 ≤ min room (s.a + bit0 c) ∧ min room (s.a + bit0 c) ≤ room := by omega
  have m2 : 0 ≤ min room (s.b + bit1 c) ∧ min room (s.b + bit1 c) ≤ room := by omega
  generalize min room (s.a + bit0 c) = a1 at m1 ⊢
  generalize min room (s.b + bit1 c) = b1' at m2 ⊢
  unfold ln
  refine ⟨?_, by omega, ⟨?_, ?_⟩, ?_, ?_⟩
  · cases ch
    · exact hr
    · show 1 - s.road = 0 ∨ 1 - s.road = 1
      omega
  all_goals
    repeat' split
    all_goals omega
theorem sta0_ok {room : Int} (h : 1 ≤ room) : StaOk room sta0 := ⟨.inl rfl, Int.le_refl _, ⟨Int.le_refl _, by show (0 : Int) ≤ room; omega⟩, Int.le_refl _, by show (0 : Int) ≤ room; omega⟩
def W_ticks : Wt := fun as P => ∃ room pause rule cs, as = [.va (crD room pause), .va (Rule.d rule), .va (coD cs)] ∧ CrOk room pause ∧ rule.ok ∧ CosOk cs ∧ P (.list ((run room pause rule sta0 cs).map tkD))
def W_lights : Wt := fun as P => ∃ room pause rule cs, as = [.va (crD room pause), .va (Rule.d rule), .va (coD cs)] ∧ CrOk room pause ∧ rule.ok ∧ CosOk cs ∧ P (.list ((run room pause rule sta0 cs).map (·.light.d)))
def W_lines : Wt := fun as P => ∃ room pause rule cs, as = [.va (crD room pause), .va (Rule.d rule), .va (coD cs)] ∧ CrOk room pause ∧ rule.ok ∧ CosOk cs ∧ P (.list ((run room pause rule sta0 cs).map lnR))
def W_counts : Wt := fun as P => ∃ room pause rule cs, as = [.va (crD room pause), .va (Rule.d rule), .va (coD cs)] ∧ CrOk room pause ∧ rule.ok ∧ CosOk cs ∧ P (.list ((run room pause rule sta0 cs).map cnR))
theorem coD_inj {cs cs' : List Int} (e : coD cs = coD cs') : cs = cs' := by
  simp only [coD, PyData.list.injEq] at e
  exact List.map_inj_right (fun a b h => by injection h) |>.mp e
theorem ex_co {cs : List Int} {Q : List DD → Prop} : (∃ ds, coD cs = .list ds ∧ Q ds) ↔ Q (cs.map PyData.int) := ex_list
theorem dIx_staL {s : Sta} {P : DD → Prop} : dIx s.d (.int (-1)) P ↔ P (lnD s.a s.b) := by
  unfold Sta.d
  rw [dIx_t]
  exact ⟨fun ⟨d, e, q⟩ => by cases e; exact q, fun q => ⟨_, rfl, q⟩⟩
theorem crD_inj {a b c d : Int} (e : crD a b = crD c d) : a = c ∧ b = d := lnD_inj e
theorem W3_i {f : Res → DD} {room pause : Int} {rule : Rule} {cs : List Int} {P : DD → Prop} (hc : CrOk room pause) (hr : rule.ok) (hk : CosOk cs) :
    (∃ room' pause' rule' cs', [Sl.va (crD room pause), Sl.va (Rule.d rule), Sl.va (coD cs)] = [.va (crD room' pause'), .va (Rule.d rule'), .va (coD cs')] ∧ CrOk room' pause' ∧ rule'.ok ∧ CosOk cs' ∧ P (.list ((run room' pause' rule' sta0 cs').map f))) ↔ P (.list ((run room pause rule sta0 cs).map f)) := by
  constructor
  · rintro ⟨r, p, ru, cs', e, _, _, _, q⟩
    simp only [List.cons.injEq, Sl.va.injEq, and_true] at e
    obtain ⟨e1, e2, e3⟩ := e
    obtain ⟨rfl, rfl⟩ := crD_inj e1
    rw [Rule.d_inj e2, coD_inj e3]
    exact q
  · intro q
    exact ⟨room, pause, rule, cs, rfl, hc, hr, hk, q⟩
theorem W_ticks_i {room pause : Int} {rule : Rule} {cs : List Int} {P : DD → Prop} (hc : CrOk room pause) (hr : rule.ok) (hk : CosOk cs) : W_ticks [.va (crD room pause), .va (Rule.d rule), .va (coD cs)] P ↔ P (.list ((run room pause rule sta0 cs).map tkD)) := W3_i hc hr hk
theorem W_lights_i {room pause : Int} {rule : Rule} {cs : List Int} {P : DD → Prop} (hc : CrOk room pause) (hr : rule.ok) (hk : CosOk cs) : W_lights [.va (crD room pause), .va (Rule.d rule), .va (coD cs)] P ↔ P (.list ((run room pause rule sta0 cs).map (·.light.d))) := W3_i hc hr hk
theorem W_lines_i {room pause : Int} {rule : Rule} {cs : List Int} {P : DD → Prop} (hc : CrOk room pause) (hr : rule.ok) (hk : CosOk cs) : W_lines [.va (crD room pause), .va (Rule.d rule), .va (coD cs)] P ↔ P (.list ((run room pause rule sta0 cs).map lnR)) := W3_i hc hr hk
theorem W_counts_i {room pause : Int} {rule : Rule} {cs : List Int} {P : DD → Prop} (hc : CrOk room pause) (hr : rule.ok) (hk : CosOk cs) : W_counts [.va (crD room pause), .va (Rule.d rule), .va (coD cs)] P ↔ P (.list ((run room pause rule sta0 cs).map cnR)) := W3_i hc hr hk
theorem W_ck_cr_i {room pause : Int} {P : DD → Prop} (hc : CrOk room pause) : W_ck_cr [.va (crD room pause)] P ↔ P .none := ⟨fun ⟨_, _, _, _, q⟩ => q, fun q => ⟨_, _, rfl, hc, q⟩⟩
theorem W_ck_ru_i {rule : Rule} {P : DD → Prop} (hc : rule.ok) : W_ck_ru [.va rule.d] P ↔ P .none := ⟨fun ⟨_, _, _, q⟩ => q, fun q => ⟨_, rfl, hc, q⟩⟩
theorem W_ck_co_i {cs : List Int} {P : DD → Prop} (hc : CosOk cs) : W_ck_co [.va (coD cs)] P ↔ P .none := ⟨fun ⟨_, _, _, q⟩ => q, fun q => ⟨_, rfl, hc, q⟩⟩
end Lr

/-! what the laws' own helpers promise: draws are anything in range -/
namespace Lr
open PySem Ab
def W_draw : Wt := fun as P => ∃ ns many, as = [.sc ns, .tw, .va (.int many)] ∧ 0 < many ∧ many ≤ 1000 ∧ ∀ n, 0 ≤ n → n < many → P (.int n)
def W_pick : Wt := fun as P => ∃ ns xs, as = [.sc ns, .tw, .va (.list xs)] ∧ xs ≠ [] ∧ xs.length ≤ 1000 ∧ ∀ x ∈ xs, P x
def W_dcross : Wt := fun as P => ∃ ns, as = [.sc ns, .tw] ∧ ∀ room pause, CrOk room pause → P (crD room pause)
def W_drule : Wt := fun as P => ∃ ns, as = [.sc ns, .tw] ∧ ∀ rule : Rule, rule.ok → P rule.d
def W_dcom : Wt := fun as P => ∃ ns most, as = [.sc ns, .tw, .va (.int most)] ∧ 0 ≤ most ∧ most ≤ 40 ∧ ∀ cs : List Int, (cs.length : Int) ≤ most → (∀ c ∈ cs, ComOk c) → P (coD cs)
theorem W_draw_i {ns : List Int} {many : Int} {P : DD → Prop} (h0 : 0 < many) (h1 : many ≤ 1000) : W_draw [.sc ns, .tw, .va (.int many)] P ↔ ∀ n, 0 ≤ n → n < many → P (.int n) :=
  ⟨fun ⟨_, _, e, _, _, q⟩ => by cases e; exact q, fun q => ⟨_, _, rfl, h0, h1, q⟩⟩
theorem W_draw_2 {ns : List Int} {P : DD → Prop} : W_draw [.sc ns, .tw, .va (.int 2)] P ↔ ∀ n, 0 ≤ n → n < 2 → P (.int n) := W_draw_i (by decide) (by decide)
theorem W_draw_3 {ns : List Int} {P : DD → Prop} : W_draw [.sc ns, .tw, .va (.int 3)] P ↔ ∀ n, 0 ≤ n → n < 3 → P (.int n) := W_draw_i (by decide) (by decide)
theorem W_draw_4 {ns : List Int} {P : DD → Prop} : W_draw [.sc ns, .tw, .va (.int 4)] P ↔ ∀ n, 0 ≤ n → n < 4 → P (.int n) := W_draw_i (by decide) (by decide)
theorem W_draw_8 {ns : List Int} {P : DD → Prop} : W_draw [.sc ns, .tw, .va (.int 8)] P ↔ ∀ n, 0 ≤ n → n < 8 → P (.int n) := W_draw_i (by decide) (by decide)
theorem W_draw_9 {ns : List Int} {P : DD → Prop} : W_draw [.sc ns, .tw, .va (.int 9)] P ↔ ∀ n, 0 ≤ n → n < 9 → P (.int n) := W_draw_i (by decide) (by decide)
theorem W_pick_i {ns : List Int} {x : DD} {xs : List DD} {P : DD → Prop} (h : (x :: xs).length ≤ 1000) : W_pick [.sc ns, .tw, .va (.list (x :: xs))] P ↔ ∀ y ∈ x :: xs, P y :=
  ⟨fun ⟨_, _, e, _, _, q⟩ => by cases e; exact q, fun q => ⟨_, _, rfl, by simp, h, q⟩⟩
theorem W_dcross_i {ns : List Int} {P : DD → Prop} : W_dcross [.sc ns, .tw] P ↔ ∀ room pause, CrOk room pause → P (crD room pause) := ⟨fun ⟨_, _, q⟩ => q, fun q => ⟨_, rfl, q⟩⟩
theorem W_drule_i {ns : List Int} {P : DD → Prop} : W_drule [.sc ns, .tw] P ↔ ∀ rule : Rule, rule.ok → P rule.d := ⟨fun ⟨_, _, q⟩ => q, fun q => ⟨_, rfl, q⟩⟩
theorem W_dcom_i {ns : List Int} {most : Int} {P : DD → Prop} (h0 : 0 ≤ most) (h1 : most ≤ 40) : W_dcom [.sc ns, .tw, .va (.int most)] P ↔ ∀ cs : List Int, (cs.length : Int) ≤ most → (∀ c ∈ cs, ComOk c) → P (coD cs) :=
  ⟨fun ⟨_, _, e, _, _, q⟩ => by cases e; exact q, fun q => ⟨_, _, rfl, h0, h1, q⟩⟩
theorem W_dcom_40 {ns : List Int} {P : DD → Prop} : W_dcom [.sc ns, .tw, .va (.int 40)] P ↔ ∀ cs : List Int, CosOk cs → P (coD cs) := by
  rw [W_dcom_i (by decide) (by decide)]
  exact ⟨fun h cs hc => h cs (by have := hc.1; omega) hc.2, fun h cs h1 h2 => h cs ⟨by omega, h2⟩⟩
theorem W_dcom_39 {ns : List Int} {P : DD → Prop} : W_dcom [.sc ns, .tw, .va (.int 39)] P ↔ ∀ cs : List Int, (cs.length ≤ 39 ∧ ∀ c ∈ cs, ComOk c) → P (coD cs) := by
  rw [W_dcom_i (by decide) (by decide)]
  exact ⟨fun h cs hc => h cs (by have := hc.1; omega) hc.2, fun h cs h1 h2 => h cs ⟨by omega, h2⟩⟩
theorem wi_asked {P : DD → Prop} : dIn false (.str (Str.ofString "asked")) (.tuple [.str (Str.ofString "clock"), .str (Str.ofString "gap")]) P ↔ P (.bool false) := by
  have e : inD (.str (Str.ofString "asked")) [.str (Str.ofString "clock"), .str (Str.ofString "gap")] = false := by decide +kernel
  constructor
  · rintro ⟨ds, h, _, _, q⟩
    rcases h with h | h <;> cases h
    rw [if_neg Bool.false_ne_true, e] at q
    exact q
  · intro q
    exact ⟨_, .inr rfl, rfl, rfl, by rw [if_neg Bool.false_ne_true, e]; exact q⟩
theorem wi_clock {P : DD → Prop} : dIn false (.str (Str.ofString "clock")) (.tuple [.str (Str.ofString "clock"), .str (Str.ofString "gap")]) P ↔ P (.bool true) := by
  have e : inD (.str (Str.ofString "clock")) [.str (Str.ofString "clock"), .str (Str.ofString "gap")] = true := by decide +kernel
  constructor
  · rintro ⟨ds, h, _, _, q⟩
    rcases h with h | h <;> cases h
    rw [if_neg Bool.false_ne_true, e] at q
    exact q
  · intro q
    exact ⟨_, .inr rfl, rfl, rfl, by rw [if_neg Bool.false_ne_true, e]; exact q⟩
theorem wi_due {P : DD → Prop} : dIn false (.str (Str.ofString "due")) (.tuple [.str (Str.ofString "clock"), .str (Str.ofString "gap")]) P ↔ P (.bool false) := by
  have e : inD (.str (Str.ofString "due")) [.str (Str.ofString "clock"), .str (Str.ofString "gap")] = false := by decide +kernel
  constructor
  · rintro ⟨ds, h, _, _, q⟩
    rcases h with h | h <;> cases h
    rw [if_neg Bool.false_ne_true, e] at q
    exact q
  · intro q
    exact ⟨_, .inr rfl, rfl, rfl, by rw [if_neg Bool.false_ne_true, e]; exact q⟩
theorem wi_empty {P : DD → Prop} : dIn false (.str (Str.ofString "empty")) (.tuple [.str (Str.ofString "clock"), .str (Str.ofString "gap")]) P ↔ P (.bool false) := by
  have e : inD (.str (Str.ofString "empty")) [.str (Str.ofString "clock"), .str (Str.ofString "gap")] = false := by decide +kernel
  constructor
  · rintro ⟨ds, h, _, _, q⟩
    rcases h with h | h <;> cases h
    rw [if_neg Bool.false_ne_true, e] at q
    exact q
  · intro q
    exact ⟨_, .inr rfl, rfl, rfl, by rw [if_neg Bool.false_ne_true, e]; exact q⟩
theorem wi_gap {P : DD → Prop} : dIn false (.str (Str.ofString "gap")) (.tuple [.str (Str.ofString "clock"), .str (Str.ofString "gap")]) P ↔ P (.bool true) := by
  have e : inD (.str (Str.ofString "gap")) [.str (Str.ofString "clock"), .str (Str.ofString "gap")] = true := by decide +kernel
  constructor
  · rintro ⟨ds, h, _, _, q⟩
    rcases h with h | h <;> cases h
    rw [if_neg Bool.false_ne_true, e] at q
    exact q
  · intro q
    exact ⟨_, .inr rfl, rfl, rfl, by rw [if_neg Bool.false_ne_true, e]; exact q⟩
theorem wi_longer {P : DD → Prop} : dIn false (.str (Str.ofString "longer")) (.tuple [.str (Str.ofString "clock"), .str (Str.ofString "gap")]) P ↔ P (.bool false) := by
  have e : inD (.str (Str.ofString "longer")) [.str (Str.ofString "clock"), .str (Str.ofString "gap")] = false := by decide +kernel
  constructor
  · rintro ⟨ds, h, _, _, q⟩
    rcases h with h | h <;> cases h
    rw [if_neg Bool.false_ne_true, e] at q
    exact q
  · intro q
    exact ⟨_, .inr rfl, rfl, rfl, by rw [if_neg Bool.false_ne_true, e]; exact q⟩
theorem at_ex {α : Type} {xs : List α} {k : Int} (h0 : 0 ≤ k) (h : k < xs.length) : ∃ x, L2.atI xs k = some x ∧ x ∈ xs := by
  obtain ⟨n, rfl⟩ := Int.eq_ofNat_of_zero_le h0
  have hn : n < xs.length := by omega
  exact ⟨xs[n], L2.atI_nat (List.getElem?_eq_getElem hn), List.getElem_mem hn⟩
theorem mulOk1 (x : Int) : IntMulOk x 1103515245 := (show L2.CMul x 1103515245 from .inr (by decide)).ok
theorem mulOk2 (x : Int) : IntMulOk 7919 x := (show L2.CMul 7919 x from .inl (by decide)).ok
theorem mulOk3 : IntMulOk ((10 : Int) ^ (60 : Int).toNat) ((10 : Int) ^ (60 : Int).toNat) := by
  have e : (60 : Int).toNat = 60 := rfl
  rw [e]
  exact (L2.wide_mul (a := 200) (b := 200) (by decide) (by decide) (by decide) (by decide) (by decide)).ok
theorem powOk18 : L2.CPow 10 18 := ⟨by decide, by decide, by decide⟩
theorem powOk60 : L2.CPow 10 60 := ⟨by decide, by decide, by decide⟩
end Lr

/-! for the laws' ends -/
namespace Lr
open PySem Ab
theorem ex_tw0 {R : Prop} : (∃ (p : Nat) (q : Int), some (Sl.ow [PyData.int 0, PyData.int 0]) = some (Sl.ow [.int (p : Int), .int q]) ∧ R) ↔ R := ⟨fun ⟨_, _, _, r⟩ => r, fun r => ⟨0, 0, rfl, r⟩⟩
theorem dRep1 {d : DD} {n : Int} {P : List DD → Prop} : dRep (.list [d]) (.int n) P ↔ -1000000 ≤ n ∧ n ≤ 1000000 ∧ n.toNat ≤ lineD ∧ P (List.replicate n.toNat d) := by
  have e : (List.replicate n.toNat [d]).flatten = List.replicate n.toNat d := by simp
  constructor
  · rintro ⟨xs, m, e1, e2, a, b, c, q⟩
    cases e1; cases e2
    rw [List.length_singleton, Nat.one_mul] at c
    rw [e] at q
    exact ⟨a, b, c, q⟩
  · rintro ⟨a, b, c, q⟩
    exact ⟨_, _, rfl, rfl, a, b, by rw [List.length_singleton, Nat.one_mul]; exact c, by rw [e]; exact q⟩
/-- n small -/
theorem dRepS {d : DD} {n : Int} {P : List DD → Prop} (h0 : -1000 ≤ n) (h : n ≤ 1000) : dRep (.list [d]) (.int n) P ↔ P (List.replicate n.toNat d) := by
  rw [dRep1]
  exact ⟨fun ⟨_, _, _, q⟩ => q, fun q => ⟨by omega, by omega, by unfold lineD; omega, q⟩⟩
theorem dIx_cr0 {r p : Int} {P : DD → Prop} : dIx (crD r p) (.int 0) P ↔ P (.int r) := by
  unfold crD
  rw [dIx_t]
  exact ⟨fun ⟨d, e, q⟩ => by cases e; exact q, fun q => ⟨_, rfl, q⟩⟩
theorem dIx_cr1 {r p : Int} {P : DD → Prop} : dIx (crD r p) (.int 1) P ↔ P (.int p) := by
  unfold crD
  rw [dIx_t]
  exact ⟨fun ⟨d, e, q⟩ => by cases e; exact q, fun q => ⟨_, rfl, q⟩⟩
theorem sIx_hi {n d : Nat} {k : Int} (h : 0 ≤ k) : HT.sIx n d (some k) = min k.toNat n := by
  obtain ⟨m, rfl⟩ := Int.eq_ofNat_of_zero_le h
  exact HT.sIx_nat n d m
theorem cut_hi {xs : List DD} {k : Int} (h : 0 ≤ k) : cutD xs none (some k) = xs.take k.toNat := by
  unfold cutD
  rw [sIx_hi h, HT.sIx_none, List.drop_zero, Nat.sub_zero]
  by_cases z : k.toNat ≤ xs.length
  · rw [Nat.min_eq_left z]
  · rw [Nat.min_eq_right (by omega), List.take_length, List.take_of_length_le (by omega)]
theorem cut_lo {xs : List DD} {k : Int} (h : 0 ≤ k) : cutD xs (some k) none = xs.drop k.toNat := by
  unfold cutD
  rw [sIx_hi h, HT.sIx_none]
  by_cases z : k.toNat ≤ xs.length
  · rw [Nat.min_eq_left z, List.take_of_length_le (by rw [List.length_drop]; exact Nat.le_refl _)]
  · rw [Nat.min_eq_right (by omega), List.drop_length, List.drop_of_length_le (show xs.length ≤ k.toNat by omega)]
    simp
/-! lights, lines, counts of a row -/
def lights (room pause : Int) (rule : Rule) (cs : List Int) : List Lt := (run room pause rule sta0 cs).map (·.light)
def linesOf (room pause : Int) (rule : Rule) (cs : List Int) : List (Int × Int) := (run room pause rule sta0 cs).map fun r => (r.s.a, r.s.b)
def countsOf (room pause : Int) (rule : Rule) (cs : List Int) : List (Int × Int) := (run room pause rule sta0 cs).map fun r => (r.passed, r.lost)
def prD (p : Int × Int) : DD := .tuple [.int p.1, .int p.2]
theorem lights_len {room pause : Int} {rule : Rule} {cs : List Int} : (lights room pause rule cs).length = cs.length := by rw [lights, List.length_map, run_len]
theorem W_lights_l {room pause : Int} {rule : Rule} {cs : List Int} {P : DD → Prop} (hc : CrOk room pause) (hr : rule.ok) (hk : CosOk cs) : W_lights [.va (crD room pause), .va (Rule.d rule), .va (coD cs)] P ↔ P (.list ((lights room pause rule cs).map Lt.d)) := by
  rw [W_lights_i hc hr hk, lights, List.map_map]
  exact Iff.rfl
theorem W_lines_l {room pause : Int} {rule : Rule} {cs : List Int} {P : DD → Prop} (hc : CrOk room pause) (hr : rule.ok) (hk : CosOk cs) : W_lines [.va (crD room pause), .va (Rule.d rule), .va (coD cs)] P ↔ P (.list ((linesOf room pause rule cs).map prD)) := by
  rw [W_lines_i hc hr hk, linesOf, List.map_map]
  exact Iff.rfl
theorem W_counts_l {room pause : Int} {rule : Rule} {cs : List Int} {P : DD → Prop} (hc : CrOk room pause) (hr : rule.ok) (hk : CosOk cs) : W_counts [.va (crD room pause), .va (Rule.d rule), .va (coD cs)] P ↔ P (.list ((countsOf room pause rule cs).map prD)) := by
  rw [W_counts_i hc hr hk, countsOf, List.map_map]
  exact Iff.rfl
theorem sh_lt {n : Nat} (l : Lt) : Sh n l.d := by
  cases l
  · exact Sh.int
  · exact Sh.non
theorem sh_pr {n : Nat} (p : Int × Int) : Sh (n + 1) (prD p) := Sh.tup (Sh.cons Sh.int (Sh.cons Sh.int Sh.nil))
theorem sh_lts (ls : List Lt) : Sh 2 (.list (ls.map Lt.d)) := Sh.list (Sh.map fun x _ => sh_lt x)
theorem sh_prs (ps : List (Int × Int)) : Sh 3 (.list (ps.map prD)) := Sh.list (Sh.map fun x _ => sh_pr (n := 1) x)
theorem dNe_same {x y : DD} {n : Nat} {P : DD → Prop} (h : Sh n x) (e : x = y) (q : P (.bool false)) (hn : n ≤ 64 := by decide) : dNe x y P := by
  subst e
  exact ⟨h.ok hn, h.ok hn, by rw [eqv_same h]; exact q⟩
theorem dEq_same {x y : DD} {n : Nat} {P : DD → Prop} (h : Sh n x) (e : x = y) (q : P (.bool true)) (hn : n ≤ 64 := by decide) : dEq x y P := by
  subst e
  exact ⟨h.ok hn, h.ok hn, by rw [eqv_same h]; exact q⟩
/-! finite tables -/
def allCr (p : Int → Int → Bool) : Bool := [1, 2, 3].all fun r => [0, 1, 2].all fun q => p r q
theorem allCr_at {p : Int → Int → Bool} (h : allCr p = true) {r q : Int} (hc : CrOk r q) : p r q = true := by
  obtain ⟨⟨h1, h2⟩, h3, h4⟩ := hc
  have hr : r ∈ [1, 2, 3] := by simp; omega
  have hq : q ∈ [0, 1, 2] := by simp; omega
  exact List.all_eq_true.mp (List.all_eq_true.mp h r hr) q hq
def allTo (lo : Int) (n : Nat) (p : Int → Bool) : Bool := (List.range n).all fun i => p (lo + (i : Int))
theorem allTo_at {lo : Int} {n : Nat} {p : Int → Bool} (h : allTo lo n p = true) {x : Int} (h0 : lo ≤ x) (h1 : x < lo + n) : p x = true := by
  have := List.all_eq_true.mp h (x - lo).toNat (List.mem_range.mpr (by omega))
  have e : lo + (((x - lo).toNat : Nat) : Int) = x := by omega
  rw [e] at this
  exact this
theorem rep_int {n : Nat} {i : Int} : List.replicate n (PyData.int i) = (List.replicate n i).map PyData.int := by simp
theorem rep_lt {n : Nat} {l : Lt} : List.replicate n l.d = (List.replicate n l).map Lt.d := by simp
theorem rep_n {n : Nat} : List.replicate n PyData.none = (List.replicate n Lt.dark).map Lt.d := by simp [Lt.d]
theorem rep_i {n : Nat} {i : Int} : List.replicate n (PyData.int i) = (List.replicate n (Lt.r i)).map Lt.d := by simp [Lt.d]
end Lr

/-! runs -/
namespace Lr
open PySem Ab
theorem run_take {room pause : Int} {rule : Rule} : ∀ (cs : List Int) (s : Sta) (k : Nat), run room pause rule s (cs.take k) = (run room pause rule s cs).take k
  | [], s, k => by simp [run]
  | c :: cs, s, 0 => by simp [run]
  | c :: cs, s, k + 1 => by simp only [List.take_succ_cons, run, run_take cs]
theorem lights_take {room pause : Int} {rule : Rule} {cs : List Int} {k : Nat} : lights room pause rule (cs.take k) = (lights room pause rule cs).take k := by rw [lights, lights, run_take, List.map_take]
theorem lines_take {room pause : Int} {rule : Rule} {cs : List Int} {k : Nat} : linesOf room pause rule (cs.take k) = (linesOf room pause rule cs).take k := by rw [linesOf, linesOf, run_take, List.map_take]
theorem counts_take {room pause : Int} {rule : Rule} {cs : List Int} {k : Nat} : countsOf room pause rule (cs.take k) = (countsOf room pause rule cs).take k := by rw [countsOf, countsOf, run_take, List.map_take]
theorem lines_len {room pause : Int} {rule : Rule} {cs : List Int} : (linesOf room pause rule cs).length = cs.length := by rw [linesOf, List.length_map, run_len]
theorem counts_len {room pause : Int} {rule : Rule} {cs : List Int} : (countsOf room pause rule cs).length = cs.length := by rw [countsOf, List.length_map, run_len]
theorem CosOk.take {cs : List Int} (h : CosOk cs) (k : Nat) : CosOk (cs.take k) := ⟨by rw [List.length_take]; have := h.1; omega, fun c hc => h.2 c (List.mem_of_mem_take hc)⟩
/-- a clock doesn't look at the lines -/
theorem clock_tick {room room' pause x y : Int} {s s' : Sta} {c d : Int} (h1 : s.road = s'.road) (h2 : s.left = s'.left) (h3 : s.age = s'.age) :
    (tick room pause (.clock x y) s c).light = (tick room' pause (.clock x y) s' d).light ∧ (tick room pause (.clock x y) s c).s.road = (tick room' pause (.clock x y) s' d).s.road ∧ (tick room pause (.clock x y) s c).s.left = (tick room' pause (.clock x y) s' d).s.left ∧ (tick room pause (.clock x y) s c).s.age = (tick room' pause (.clock x y) s' d).s.age := by
  cases s
  cases s'
  cases (show _ = _ from h1)
  cases (show _ = _ from h2)
  cases (show _ = _ from h3)
  exact ⟨rfl, rfl, rfl, rfl⟩
theorem clock_run {room room' pause x y : Int} : ∀ (cs ds : List Int) (s s' : Sta), s.road = s'.road → s.left = s'.left → s.age = s'.age → cs.length ≤ ds.length → (run room pause (.clock x y) s cs).map (·.light) = ((run room' pause (.clock x y) s' ds).map (·.light)).take cs.length
  | [], _, _, _, _, _, _, _ => by simp [run]
  | _ :: _, [], _, _, _, _, _, h => by simp at h
  | c :: cs, d :: ds, s, s', h1, h2, h3, h => by
    obtain ⟨e1, e2, e3, e4⟩ := clock_tick (room := room) (room' := room') (pause := pause) (x := x) (y := y) (c := c) (d := d) h1 h2 h3
    simp only [run, List.map_cons, List.length_cons, List.take_succ_cons]
    rw [e1, clock_run cs ds _ _ e2 e3 e4 (by simpa using h)]
theorem clock_lights {room room' pause x y : Int} {cs ds : List Int} (h : cs.length ≤ ds.length) : lights room pause (.clock x y) cs = (lights room' pause (.clock x y) ds).take cs.length := clock_run cs ds _ _ rfl rfl rfl h
/-- no change, no pause -/
theorem tick_keep {room pause c a1 b1 : Int} {rule : Rule} {s : Sta} (hl : s.left = 0) (h1 : min room (s.a + bit0 c) = a1) (h2 : min room (s.b + bit1 c) = b1) (hch : changes rule s.road s.age s.rest s.wait a1 b1 = false) :
    tick room pause rule s c = (let passed : Int := if ln s.road a1 b1 ≠ 0 then 1 else 0
      let a2 := if s.road = 0 then a1 - passed else a1
      let b2 := if s.road ≠ 0 then b1 - passed else b1
      ⟨⟨s.road, 0, s.age + 1, if passed > 0 then 0 else s.rest + 1, if ln (1 - s.road) a2 b2 > 0 then s.wait + 1 else 0, a2, b2⟩, .r s.road, passed, (s.a + bit0 c) + (s.b + bit1 c) - (a1 + b1)⟩) := by
  subst h1 h2
  obtain ⟨road, left, age, rest, wait, a, b⟩ := s
  replace hl : left = 0 := hl
  subst hl
  replace hch : changes rule road age rest wait (min room (a + bit0 c)) (min room (b + bit1 c)) = false := hch
  simp only [tick, hch, Bool.and_false, Bool.false_eq_true, if_false, show max (0 : Int) (0 - 1) = 0 from rfl, true_and, if_true]
/-- the first light -/
theorem first_light {room pause : Int} {rule : Rule} {c : Int} {cs : List Int} (hr : rule.ok) (he : ∀ n, rule ≠ .empty n) : ∃ r, lights room pause rule (c :: cs) = .r 0 :: r := by
  have hch : ∀ a b, changes rule 0 0 0 0 a b = false := by
    intro a b
    cases rule with
    | empty n => exact absurd rfl (he n)
    | clock x y => obtain ⟨⟨h, _⟩, _⟩ := hr; simp [changes, ln]; omega
    | asked n => obtain ⟨h, _⟩ := hr; simp [changes]; omega
    | longer n => obtain ⟨h, _⟩ := hr; simp [changes]; omega
    | gap i m => obtain ⟨⟨h, _⟩, h', _⟩ := hr; simp [changes]; omega
    | due n => obtain ⟨h, _⟩ := hr; simp [changes]; omega
  refine ⟨(run room pause rule (tick room pause rule sta0 c).s cs).map (·.light), ?_⟩
  have e : (tick room pause rule sta0 c).light = .r 0 := by rw [tick_keep rfl rfl rfl (hch _ _)]; rfl
  rw [← e]
  rfl
/-- nothing comes on road 1 -/
def Quiet (s : Sta) : Prop := s.road = 0 ∧ s.left = 0 ∧ s.a = 0 ∧ s.b = 0 ∧ s.wait = 0
theorem quiet_tick {room pause c : Int} {rule : Rule} {s : Sta} (hc : CrOk room pause) (hr : rule.ok) (hn : ∀ x y, rule ≠ .clock x y) (hq : Quiet s) (hk : c = 0 ∨ c = 1) : Quiet (tick room pause rule s c).s ∧ (tick room pause rule s c).light = .r 0 ∧ (tick room pause rule s c).passed = c ∧ (tick room pause rule s c).lost = 0 := by
  obtain ⟨q1, q2, q3, q4, q5⟩ := hq
  obtain ⟨⟨r1, r2⟩, p1, p2⟩ := hc
  have ha : min room (0 + bit0 c) = c := by rcases hk with rfl | rfl <;> simp [bit0] <;> omega
  have hb : min room (0 + bit1 c) = 0 := by rcases hk with rfl | rfl <;> simp [bit1] <;> omega
  have hch : changes rule 0 s.age s.rest 0 c 0 = false := by
    cases rule with
    | clock x y => exact absurd rfl (hn x y)
    | empty n => simp [changes, ln]
    | asked n => simp [changes, ln]
    | longer n => simp [changes, ln]; intro; rcases hk with rfl | rfl <;> simp
    | gap i m => simp [changes, ln]
    | due n => obtain ⟨h, _⟩ := hr; simp [changes]; omega
  obtain ⟨road, left, age, rest, wait, a, b⟩ := s
  replace q1 : road = 0 := q1
  replace q2 : left = 0 := q2
  replace q3 : a = 0 := q3
  replace q4 : b = 0 := q4
  replace q5 : wait = 0 := q5
  subst q1 q2 q3 q4 q5
  rw [tick_keep (a1 := c) (b1 := 0) rfl ha hb hch]
  rcases hk with rfl | rfl <;> exact ⟨⟨rfl, rfl, rfl, rfl, rfl⟩, rfl, rfl, rfl⟩
theorem quiet_run {room pause : Int} {rule : Rule} (hc : CrOk room pause) (hr : rule.ok) (hn : ∀ x y, rule ≠ .clock x y) : ∀ (cs : List Int) (s : Sta), Quiet s → (∀ c ∈ cs, c = 0 ∨ c = 1) → (run room pause rule s cs).map (·.light) = List.replicate cs.length (.r 0) ∧ (run room pause rule s cs).map (fun r => (r.s.a, r.s.b)) = List.replicate cs.length (0, 0) ∧ (run room pause rule s cs).map (fun r => (r.passed, r.lost)) = cs.map fun c => (c, 0)
  | [], _, _, _ => by simp [run]
  | c :: cs, s, hq, h => by
    obtain ⟨e1, e2, e3, e4⟩ := quiet_tick hc hr hn hq (h c List.mem_cons_self)
    obtain ⟨i1, i2, i3⟩ := quiet_run hc hr hn cs _ e1 fun c hc => h c (List.mem_cons_of_mem _ hc)
    simp only [run, List.map_cons, List.length_cons, List.replicate_succ, i1, i2, i3, e2, e3, e4, e1.2.2.1, e1.2.2.2.1, and_self]
theorem dLen_co {cs : List Int} {P : DD → Prop} : dLen [coD cs] P ↔ P (.int (cs.length : Int)) := by
  unfold coD
  rw [dLen_l, List.length_map]
theorem dRepN {xs : List DD} {n : Int} {P : List DD → Prop} (h0 : 0 ≤ n) (h1 : n ≤ 1000) (h : xs.length ≤ 100) : dRep (.list xs) (.int n) P ↔ P (List.replicate n.toNat xs).flatten := by
  constructor
  · rintro ⟨ys, m, e1, e2, _, _, _, q⟩
    cases e1; cases e2
    exact q
  · intro q
    refine ⟨_, _, rfl, rfl, by omega, by omega, ?_, q⟩
    have : xs.length * n.toNat ≤ 100 * 1000 := Nat.mul_le_mul h (by omega)
    unfold lineD
    omega
end Lr

/-! the middle of a run -/
namespace Lr
open PySem Ab L2
def enumF : Nat → List DD → List DD
  | _, [] => []
  | n, x :: xs => .tuple [.int (n : Int), x] :: enumF (n + 1) xs
theorem enumG : ∀ (xs : List DD) (k : Nat), (((List.range' k xs.length).zip xs).map fun p => PyData.tuple [.int (p.1 : Int), p.2]) = enumF k xs
  | [], _ => rfl
  | x :: xs, k => by
    rw [List.length_cons, List.range'_succ, List.zip_cons_cons, List.map_cons, enumG xs (k + 1), enumF]
theorem enumD_F (xs : List DD) : enumD xs = enumF 0 xs := by
  rw [← enumG, enumD, List.range_eq_range']
/-- the light that a state shows -/
def lastL (s : Sta) : Lt := if s.left = 0 then .r s.road else .dark
theorem tick_light {room pause c : Int} {rule : Rule} {s : Sta} : (tick room pause rule s c).light = lastL (tick room pause rule s c).s := rfl
structure Mid (room pause : Int) (rule : Rule) (cs : List Int) (n : Nat) (s : Sta) (rest : List Int) : Prop where
  eq : ∃ rs, run room pause rule sta0 cs = rs ++ run room pause rule s rest ∧ rs.length = n ∧ ((n = 0 ∧ s = sta0) ∨ ∃ rs' r, rs = rs' ++ [r] ∧ r.s = s ∧ r.light = lastL s)
  ok : StaOk room s
  com : ∀ c ∈ rest, ComOk c
variable {room pause : Int} {rule : Rule} {cs rest : List Int} {n : Nat} {s : Sta} {c : Int}
theorem Mid.zero (hc : CrOk room pause) (hk : CosOk cs) : Mid room pause rule cs 0 sta0 cs := ⟨⟨[], rfl, rfl, .inl ⟨rfl, rfl⟩⟩, sta0_ok hc.1.1, hk.2⟩
theorem Mid.step (hc : CrOk room pause) (h : Mid room pause rule cs n s (c :: rest)) : Mid room pause rule cs (n + 1) (tick room pause rule s c).s rest := by
  obtain ⟨rs, e1, e2, _⟩ := h.eq
  refine ⟨⟨rs ++ [tick room pause rule s c], by rw [e1, List.append_assoc]; rfl, by rw [List.length_append, e2]; rfl, .inr ⟨rs, _, rfl, rfl, tick_light⟩⟩, tick_ok hc h.ok (h.com c List.mem_cons_self), fun d hd => h.com d (List.mem_cons_of_mem _ hd)⟩
theorem Mid.at (h : Mid room pause rule cs n s (c :: rest)) (f : Res → DD) : atI ((run room pause rule sta0 cs).map f) (n : Int) = some (f (tick room pause rule s c)) := by
  obtain ⟨rs, e1, e2, _⟩ := h.eq
  refine atI_nat ?_
  rw [e1, List.map_append, List.getElem?_append_right (by rw [List.length_map]; omega), List.length_map, e2, Nat.sub_self]
  rfl
theorem Mid.prev (h : Mid room pause rule cs n s rest) (hn : 0 < n) : ∃ r, r.s = s ∧ r.light = lastL s ∧ ∀ f : Res → DD, atI ((run room pause rule sta0 cs).map f) ((n : Int) - 1) = some (f r) := by
  obtain ⟨rs, e1, e2, e3⟩ := h.eq
  rcases e3 with ⟨e, _⟩ | ⟨rs', r, rfl, h1, h2⟩
  · omega
  · refine ⟨r, h1, h2, fun f => ?_⟩
    rw [List.length_append, List.length_singleton] at e2
    rw [show (n : Int) - 1 = ((rs'.length : Nat) : Int) by omega]
    refine atI_nat ?_
    rw [e1, List.append_assoc, List.map_append, List.getElem?_append_right (by rw [List.length_map]; exact Nat.le_refl _), List.length_map, Nat.sub_self]
    rfl
theorem li_map : (lights room pause rule cs).map Lt.d = (run room pause rule sta0 cs).map fun r => r.light.d := by rw [lights, List.map_map]; rfl
theorem ls_map : (linesOf room pause rule cs).map prD = (run room pause rule sta0 cs).map fun r => lnD r.s.a r.s.b := by rw [linesOf, List.map_map]; rfl
theorem cn_map : (countsOf room pause rule cs).map prD = (run room pause rule sta0 cs).map fun r => .tuple [.int r.passed, .int r.lost] := by rw [countsOf, List.map_map]; rfl
theorem Mid.li (h : Mid room pause rule cs n s (c :: rest)) {P : DD → Prop} : dIx (.list ((lights room pause rule cs).map Lt.d)) (.int (n : Int)) P ↔ P (tick room pause rule s c).light.d := by
  rw [dIx_l, li_map, h.at]
  exact ⟨fun ⟨d, e, q⟩ => by cases e; exact q, fun q => ⟨_, rfl, q⟩⟩
theorem Mid.ls (h : Mid room pause rule cs n s (c :: rest)) {P : DD → Prop} : dIx (.list ((linesOf room pause rule cs).map prD)) (.int (n : Int)) P ↔ P (lnD (tick room pause rule s c).s.a (tick room pause rule s c).s.b) := by
  rw [dIx_l, ls_map, h.at]
  exact ⟨fun ⟨d, e, q⟩ => by cases e; exact q, fun q => ⟨_, rfl, q⟩⟩
theorem Mid.cn (h : Mid room pause rule cs n s (c :: rest)) {P : DD → Prop} : dIx (.list ((countsOf room pause rule cs).map prD)) (.int (n : Int)) P ↔ P (.tuple [.int (tick room pause rule s c).passed, .int (tick room pause rule s c).lost]) := by
  rw [dIx_l, cn_map, h.at]
  exact ⟨fun ⟨d, e, q⟩ => by cases e; exact q, fun q => ⟨_, rfl, q⟩⟩
theorem Mid.pl (h : Mid room pause rule cs n s rest) (hn : 0 < n) {P : DD → Prop} : dIx (.list ((lights room pause rule cs).map Lt.d)) (.int ((n : Int) - 1)) P ↔ P (lastL s).d := by
  obtain ⟨r, h1, h2, h3⟩ := h.prev hn
  rw [dIx_l, li_map, h3, h2]
  exact ⟨fun ⟨d, e, q⟩ => by cases e; exact q, fun q => ⟨_, rfl, q⟩⟩
theorem Mid.ali (h : Mid room pause rule cs n s (c :: rest)) : atI ((lights room pause rule cs).map Lt.d) (n : Int) = some (tick room pause rule s c).light.d := by rw [li_map, h.at]
theorem Mid.als (h : Mid room pause rule cs n s (c :: rest)) : atI ((linesOf room pause rule cs).map prD) (n : Int) = some (lnD (tick room pause rule s c).s.a (tick room pause rule s c).s.b) := by rw [ls_map, h.at]
theorem Mid.acn (h : Mid room pause rule cs n s (c :: rest)) : atI ((countsOf room pause rule cs).map prD) (n : Int) = some (.tuple [.int (tick room pause rule s c).passed, .int (tick room pause rule s c).lost]) := by rw [cn_map, h.at]
theorem Mid.apl (h : Mid room pause rule cs n s rest) (hn : 0 < n) : atI ((lights room pause rule cs).map Lt.d) ((n : Int) - 1) = some (lastL s).d := by
  obtain ⟨r, h1, h2, h3⟩ := h.prev hn
  rw [li_map, h3, h2]
/-- what a tick does to the lines -/
theorem tick_spec (hs : StaOk room s) : (tick room pause rule s c).lost = (s.a + bit0 c) + (s.b + bit1 c) - (min room (s.a + bit0 c) + min room (s.b + bit1 c)) ∧
    (((tick room pause rule s c).light = .dark ∧ (tick room pause rule s c).passed = 0 ∧ (tick room pause rule s c).s.a = min room (s.a + bit0 c) ∧ (tick room pause rule s c).s.b = min room (s.b + bit1 c)) ∨
     ((tick room pause rule s c).light = .r 0 ∧ (tick room pause rule s c).passed = (if min room (s.a + bit0 c) = 0 then 0 else 1) ∧ (tick room pause rule s c).s.a = min room (s.a + bit0 c) - (tick room pause rule s c).passed ∧ (tick room pause rule s c).s.b = min room (s.b + bit1 c)) ∨
     ((tick room pause rule s c).light = .r 1 ∧ (tick room pause rule s c).passed = (if min room (s.b + bit1 c) = 0 then 0 else 1) ∧ (tick room pause rule s c).s.a = min room (s.a + bit0 c) ∧ (tick room pause rule s c).s.b = min room (s.b + bit1 c) - (tick room pause rule s c).passed)) := by
  refine ⟨rfl, ?_⟩
  simp only [tick]
  generalize (decide (s.left = 0) && changes rule s.road s.age s.rest s.wait (min room (s.a + bit0 c)) (min room (s.b + bit1 c))) = ch
  generalize min room (s.a + bit0 c) = a1
  generalize min room (s.b + bit1 c) = b1
  generalize hl : max 0 ((if ch = true then pause + 1 else s.left) - 1) = l
  have hr : (if ch = true then 1 - s.road else s.road) = 0 ∨ (if ch = true then 1 - s.road else s.road) = 1 := by
    rcases hs.1 with h | h <;> rw [h] <;> cases ch <;> simp
  generalize (if ch = true then 1 - s.road else s.road) = r at hr
  by_cases h0 : l = 0
  · rcases hr with rfl | rfl
    · right; left
      simp only [h0, ln, if_true, true_and, ne_eq, not_true, and_false, if_false]
      refine ⟨?_, ?_⟩
      · by_cases z : a1 = 0 <;> simp [z]
      · by_cases z : a1 = 0 <;> simp [z]
    · right; right
      simp only [h0, ln, if_true, true_and, ne_eq, not_true, and_false, if_false]
      refine ⟨?_, ?_⟩
      · by_cases z : b1 = 0 <;> simp [z]
      · by_cases z : b1 = 0 <;> simp [z]
  · left
    simp only [h0, false_and, if_false, and_self]
theorem dIn_i2 {x y z : Int} {P : DD → Prop} : dIn false (.int x) (.tuple [.int y, .int z]) P ↔ P (.bool (decide (x = y ∨ x = z))) := by
  have e : inD (.int x) [.int y, .int z] = decide (x = y ∨ x = z) := by
    show ((y == x) || ((z == x) || false)) = decide (x = y ∨ x = z)
    rw [Bool.eq_iff_iff]
    simp only [Bool.or_eq_true, beq_iff_eq, Bool.or_false, decide_eq_true_eq]
    omega
  constructor
  · rintro ⟨ds, h, _, _, q⟩
    rcases h with h | h <;> cases h
    rw [if_neg Bool.false_ne_true, e] at q
    exact q
  · intro q
    exact ⟨_, .inr rfl, rfl, rfl, by rw [if_neg Bool.false_ne_true, e]; exact q⟩
theorem ex_co1 {Q : List DD → Prop} : (∃ ds, [coD cs] = [.list ds] ∧ Q ds) ↔ Q (cs.map PyData.int) := ⟨fun ⟨_, e, q⟩ => by cases e; exact q, fun q => ⟨_, rfl, q⟩⟩
theorem ixN_20 : ixN 2 0 = some 0 := rfl
theorem ixN_21 : ixN 2 1 = some 1 := rfl
theorem ex_ix {j : Nat} {Q : Nat → Prop} : (∃ k, some j = some k ∧ Q k) ↔ Q j := ⟨fun ⟨_, e, q⟩ => by cases e; exact q, fun q => ⟨_, rfl, q⟩⟩
theorem ixN_20' : ixN (0 + 1 + 1) 0 = some 0 := rfl
theorem ixN_21' : ixN (0 + 1 + 1) 1 = some 1 := rfl
theorem ex_i2 {i : Int} {α : Type} {Q : Int → α → Prop} : (∃ k d, PyData.int i = .int k ∧ Q k d) ↔ ∃ d, Q i d := ⟨fun ⟨_, d, e, q⟩ => by cases e; exact ⟨d, q⟩, fun ⟨d, q⟩ => ⟨_, d, rfl, q⟩⟩
theorem ex_i3 {i : Int} {α β : Type} {Q : Int → α → β → Prop} : (∃ k d e, PyData.int i = .int k ∧ Q k d e) ↔ ∃ d e, Q i d e := ⟨fun ⟨_, d, e', e, q⟩ => by cases e; exact ⟨d, e', q⟩, fun ⟨d, e, q⟩ => ⟨_, d, e, rfl, q⟩⟩
theorem ex_j2 {j : Nat} {α : Type} {Q : Nat → α → Prop} : (∃ k d, some j = some k ∧ Q k d) ↔ ∃ d, Q j d := ⟨fun ⟨_, d, e, q⟩ => by cases e; exact ⟨d, q⟩, fun ⟨d, q⟩ => ⟨_, d, rfl, q⟩⟩
theorem ex_si {i : Int} {Q : Int → Prop} : (∃ m, some (PyData.int i) = some (.int m) ∧ Q m) ↔ Q i := ⟨fun ⟨_, e, q⟩ => by cases e; exact q, fun q => ⟨_, rfl, q⟩⟩
theorem came_at {c : Int} (h : ComOk c) : atI [PyData.int 0, .int 1, .int 1, .int 2] c = some (.int (bit0 c + bit1 c)) := by
  rcases com_cases h with rfl | rfl | rfl | rfl <;> rfl
theorem bits {c : Int} (h : ComOk c) : (0 ≤ bit0 c ∧ bit0 c ≤ 1) ∧ 0 ≤ bit1 c ∧ bit1 c ≤ 1 := by
  unfold ComOk at h
  unfold bit0 bit1
  omega
theorem no_jump {i : Int} (hp : 0 < pause) (hs : StaOk room s) (h1 : (tick room pause rule s c).light = .r i) (hi : i = 0 ∨ i = 1) : lastL s ≠ .r (1 - i) := by
  intro h2
  unfold lastL at h2
  split at h2
  next h0 =>
    have hr : s.road = 1 - i := by injection h2
    simp only [tick] at h1
    generalize hch : (decide (s.left = 0) && changes rule s.road s.age s.rest s.wait (min room (s.a + bit0 c)) (min room (s.b + bit1 c))) = ch at h1
    cases ch with
    | true =>
      simp only [if_true] at h1
      rw [if_neg (by omega)] at h1
      cases h1
    | false =>
      simp only [Bool.false_eq_true, if_false] at h1
      rw [h0, if_pos (by omega)] at h1
      injection h1
      omega
  next => cases h2
theorem com4 {c : Int} (h : ComOk c) : c = 0 ∨ c = 1 ∨ c = 2 ∨ c = 3 := com_cases h
end Lr

/-! max, min of a pair of ints -/
namespace Ab
open PySem PySem.Spec PyProof.Rows L2
section
variable {prog : Program} {w : World} {A : Around} {E : Value → Shared → Prop} {s : Shared} {l : Addr}
theorem iter_pair {its : Array Value} {Q : Value → Shared → Prop} (hl : s.heap.IsTuple l its)
    (h : ∀ s2 : Shared, s2 = { s with heap := s.heap.push { cls := .type "tuple_iterator", data := .fields #[.ref l, .int 0 0] } } →
      (s2.heap.IsTupleIter s.heap.objs.size l 0 ∧ s2.heap.IsTuple l its) → (∀ b ∈ [s.heap.objs.size, l], b < s2.heap.objs.size) → l ≠ s.heap.objs.size → Q (.ref s.heap.objs.size) s2) :
    wpAny (model prog w) A (pyIter (.ref l)) Q E s := by
  have hlt : l < s.heap.objs.size := by
    obtain ⟨_, e, _⟩ := hl
    exact Heap.lt_size e
  refine wpAny_pyIter_tuple hl (h _ rfl ⟨⟨_, Heap.get?_push_size _ rfl, rfl, rfl⟩, hl.push _⟩ (fun b hb => ?_) (Nat.ne_of_lt hlt))
  show b < (s.heap.push _).objs.size
  rw [Heap.size_push]
  rcases List.mem_cons.mp hb with rfl | hb
  · exact Nat.lt_succ_self _
  rcases List.mem_cons.mp hb with rfl | hb
  · exact Nat.lt_succ_of_lt hlt
  · cases hb
theorem kept_pair {h' : Heap} (hk : ∀ b o, b ∉ [s.heap.objs.size] → (s.heap.push { cls := .type "tuple_iterator", data := .fields #[.ref l, .int 0 0] }).get? b = some o → h'.get? b = some o) :
    ∀ b o, s.heap.get? b = some o → h'.get? b = some o := fun b o e => by
  refine hk b o (fun hm => ?_) (Heap.get?_push_of_some _ e)
  rcases List.mem_cons.mp hm with e1 | hm
  · exact absurd (e1 ▸ Heap.lt_size e) (Nat.lt_irrefl _)
  · cases hm
theorem max_pair {Q : Value → Shared → Prop} {a b : Value} (hh : A.handled = none) (hl : s.heap.IsTuple l #[a, b]) (ha : Flt.NumV a) (hb : Flt.NumV b)
    (h : ∀ h' tk, (∀ d o, s.heap.get? d = some o → h'.get? d = some o) → Q (if Flt.ltV a b = true then b else a) { s with heap := h', toks := tk }) :
    wpAny (model prog w) A (call (.builtin "max") [.ref l]) Q E s := by
  refine call_max_walk (iter_pair hl fun s2 e st hfp hlI => ?_)
  subst e
  refine ⟨_, _, _, _, _, _, _, rfl, Walks.tuple (A := A.in1) hh _ l hlI #[a, b], st, hfp, by simp, Flt.cmpOf_gt #[a, b] (by simp [ha, hb]), fun v h' tk hP hk => ?_⟩
  have := h h' tk (kept_pair hk)
  have hv : (if Flt.ltV a b = true then b else a) = v := by
    cases h1 : Flt.ltV a b <;> simp [argBest, h1] at hP <;> simp <;> exact hP
  rw [hv] at this
  exact this
theorem min_pair {Q : Value → Shared → Prop} {a b : Value} (hh : A.handled = none) (hl : s.heap.IsTuple l #[a, b]) (ha : Flt.NumV a) (hb : Flt.NumV b)
    (h : ∀ h' tk, (∀ d o, s.heap.get? d = some o → h'.get? d = some o) → Q (if Flt.ltV b a = true then b else a) { s with heap := h', toks := tk }) :
    wpAny (model prog w) A (call (.builtin "min") [.ref l]) Q E s := by
  refine call_min_walk (iter_pair hl fun s2 e st hfp hlI => ?_)
  subst e
  refine ⟨_, _, _, _, _, _, _, rfl, Walks.tuple (A := A.in1) hh _ l hlI #[a, b], st, hfp, by simp, Flt.cmpOf_lt #[a, b] (by simp [ha, hb]), fun v h' tk hP hk => ?_⟩
  have := h h' tk (kept_pair hk)
  have hv : (if Flt.ltV b a = true then b else a) = v := by
    cases h1 : Flt.ltV b a <;> simp [argBest, h1] at hP <;> simp <;> exact hP
  rw [hv] at this
  exact this
end
section
variable {X : Cx} {K : KW}
def rPair (f : Int → Int → Int) (K : KW) : List V → Hp → VK → Prop := fun vs H Q => ∃ (a : Addr) (i j : Int), vs = [V.ref a] ∧ SqT K H a [.int i, .int j] ∧ Q (.int (f i j)) H
theorem lt_int {i j : Int} {t u : Tok} : Flt.ltV (.int i t) (.int j u) = decide (i < j) := by
  obtain ⟨_, _, e⟩ := lt_nu (x := .int i) (y := .int j) (v := .int i t) (u := .int j u) (c := decide (i < j)) ⟨_, rfl⟩ ⟨_, rfl⟩ rfl
  exact e
theorem num_int {i : Int} {t : Tok} : Flt.NumV (.int i t) := (lt_nu (x := .int i) (y := .int i) (v := .int i t) (u := .int i t) (c := decide (i < i)) ⟨_, rfl⟩ ⟨_, rfl⟩ rfl).1
theorem cr_maxP (hc : X.calm = true) : CallR X (.builtin "max") (rPair max (kw X)) := by
  intro pins s σ H vs us Q I r h
  obtain ⟨a, i, j, rfl, hs, q⟩ := h
  obtain ⟨u, rfl, ru⟩ := vals1 r
  cases ru
  obtain ⟨its, rv, p, hz⟩ := I.tuple hs
  obtain ⟨u1, u2, rfl, ⟨t1, rfl⟩, t2, rfl⟩ : ∃ u1 u2, its = [u1, u2] ∧ RelV (.int i) u1 ∧ RelV (.int j) u2 := by
    cases rv with
    | cons a b => cases b with
      | cons c d => cases d; exact ⟨_, _, rfl, a, c⟩
  refine max_pair (I.ok.hd hc) p num_int num_int fun h' tk k => ⟨_, H, I.kept k, ?_, q⟩
  rw [lt_int]
  by_cases z : i < j
  · rw [decide_eq_true z, if_pos rfl, show max i j = j by omega]; exact ⟨_, rfl⟩
  · rw [decide_eq_false z, if_neg Bool.false_ne_true, show max i j = i by omega]; exact ⟨_, rfl⟩
theorem cr_minP (hc : X.calm = true) : CallR X (.builtin "min") (rPair min (kw X)) := by
  intro pins s σ H vs us Q I r h
  obtain ⟨a, i, j, rfl, hs, q⟩ := h
  obtain ⟨u, rfl, ru⟩ := vals1 r
  cases ru
  obtain ⟨its, rv, p, hz⟩ := I.tuple hs
  obtain ⟨u1, u2, rfl, ⟨t1, rfl⟩, t2, rfl⟩ : ∃ u1 u2, its = [u1, u2] ∧ RelV (.int i) u1 ∧ RelV (.int j) u2 := by
    cases rv with
    | cons a b => cases b with
      | cons c d => cases d; exact ⟨_, _, rfl, a, c⟩
  refine min_pair (I.ok.hd hc) p num_int num_int fun h' tk k => ⟨_, H, I.kept k, ?_, q⟩
  rw [lt_int]
  by_cases z : j < i
  · rw [decide_eq_true z, if_pos rfl, show min i j = j by omega]; exact ⟨_, rfl⟩
  · rw [decide_eq_false z, if_neg Bool.false_ne_true, show min i j = i by omega]; exact ⟨_, rfl⟩
def dPair (f : Int → Int → Int) : List DD → (DD → Prop) → Prop := fun ds P => ∃ i j, ds = [.tuple [.int i, .int j]] ∧ P (.int (f i j))
theorem sc_pair {f : Int → Int → Int} : SimC K (rPair f K) (dPair f) := fun T H F vs ds b hd P p Q q => by
  obtain ⟨i, j, rfl, p⟩ := p
  obtain ⟨v, rfl, h⟩ := one_of hd
  cases h with
  | tup h1 h2 =>
    cases h2 with
    | cons a c => cases c with
      | cons a' d =>
        cases d; cases a; cases a'
        exact ⟨_, i, j, rfl, b.sub.seqT h1, q _ _ H F (.refl b) (.int _) p⟩
theorem dPair_i {f : Int → Int → Int} {i j : Int} {P : DD → Prop} : dPair f [.tuple [.int i, .int j]] P ↔ P (.int (f i j)) := ⟨fun ⟨_, _, e, q⟩ => by cases e; exact q, fun q => ⟨_, _, rfl, q⟩⟩
variable {e a b c : Expr} {pos p : Pos} {α β γ : AEx}
theorem jt_chain {op op' : CmpOp} {r r' : R2} {ρ ρ' : DD → DD → (DD → Prop) → Prop} (ho : OpR X (compareOp op) r) (hr : SimR (kw X) r ρ) (ho' : OpR X (compareOp op') r') (hr' : SimR (kw X) r' ρ') (ha : JE X a α) (hb : JE X b β) (hc : JE X c γ)
    (hm : lastMarks [op, op'] [b, c] = false := by with_unfolding_all rfl) : JT X (.Compare a [op, op'] [b, c] pos) (aT (aChain ρ ρ' α β γ)) := by
  obtain ⟨ta, a1, a2⟩ := ha.ex
  obtain ⟨tb, b1, b2⟩ := hb.ex
  obtain ⟨tc, c1, c2⟩ := hc.ex
  exact ⟨_, pt_chain ho ho' a1 b1 c1 hm, sim_test (sim_chain hr hr' a2 b2 c2)⟩
/-- a, b = a new list that may change, e2 -/
def aParO2 (i j : Nat) (α : AOx) (β : AEx) : ASx := fun A env => α env fun ds => β env fun d => A.nx ((env.set i (.ow ds)).set j (.va d))
theorem js_parO2 (i j : Nat) {x y : Str} {px py pt : Pos} {kt k2 : Nat} {pt2 : Pos} {α : AOx} {β : AEx} (hc : X.calm = true) (nd : X.N.Nodup) (ha : JO X a α) (hb : JE X b β) (hi : X.N[i]? = some x := by rfl) (hj : X.N[j]? = some y := by rfl) (hij : i ≠ j := by decide)
    (hx : X.env.scope.names.lookup x = some .local := by rfl) (hy : X.env.scope.names.lookup y = some .local := by rfl)
    (hw : swappedStores [.Tuple [.Name x px, .Name y py] kt pt] (.Tuple [a, b] k2 pt2) X.env = pure (some [x, y]) := by rfl)
    (hs : swapsWithSole [.Tuple [.Name x px, .Name y py] kt pt] (.Tuple [a, b] k2 pt2) pos.line X.env = pure false := by rfl)
    (h1 : starEach [a, b] X.env = (false, eval a X.env) :: starEach [b] X.env := by rfl) (h2 : starEach [b] X.env = (false, eval b X.env) :: starEach [] X.env := by rfl) : JS X (.Assign [.Tuple [.Name x px, .Name y py] kt pt] (.Tuple [a, b] k2 pt2) pos) (aParO2 i j α β) := by
  obtain ⟨t, a1, a2⟩ := ha.ex
  obtain ⟨u, b1, b2⟩ := hb.ex
  refine ⟨_, ps_par hc nd hi hj hij hx hy (pa_cons a1 (pa_cons b1 pa_nil h2) h1) hw hs, fun B F0 M T env σ H F R0 A D l p => a2 B F0 M T env σ H F R0 _ p _ fun q vs ds H1 F1 s1 g1 g2 g3 d1 p1 => b2 B F0 M T env σ H1 F1 (R0.step s1) _ p1 _ fun v d H2 F2 s2 d2 p2 => ?_⟩
  have R2 := (R0.step s1).step s2
  have nt : ¬ T q := fun t => by
    obtain ⟨_, z⟩ := Tws.has (R0.toGd.tw q t).2.1
    rw [g3] at z; cases z
  have g1' := s2.keep q _ g1 nt
  have g2' : F2 q = none := by
    cases e : F2 q with
    | none => rfl
    | some o =>
      rcases s2.new q o e with e' | e'
      · rw [g2] at e'; cases e'
      · rw [g1] at e'; cases e'
  refine ⟨.ref q, v, rfl, l.nx T _ _ H2 F2 ((R2.putO g1' g2' (R0.toGd.dom g3) nt (RpAll.sub s2.ext _ d1) (fun m es _ hm hσ => ?_) (R0.lnf g3)).put d2 _ rfl) p2⟩
  obtain ⟨b, vs', e1, e2, _⟩ := R0.og m es hm
  rw [hσ] at e1
  cases Option.some.inj e1
  rw [g3] at e2; cases e2
/-- (a, b, ..) = a list of that length -/
def tgUnl (n : Nat) (h : List DD → AE → (AE → Prop) → Prop) : DD → AE → (AE → Prop) → Prop := fun d env P => ∃ ds, d = .list ds ∧ ds.length = n ∧ h ds env P
theorem jg_unl {es : List Expr} {n k : Nat} {h : List DD → AE → (AE → Prop) → Prop} (hc : X.calm = true) (h1 : JGs X es h) (hn : (assignEach es X.env).length = n := by rfl) (hst : (assignEach es X.env).findIdx? (·.1) = none := by rfl) : JG X (.Tuple es k pos) (tgUnl n h) := by
  obtain ⟨t, a1, a2⟩ := h1.ex
  refine ⟨_, pg_unl hc a1 hn hst, fun B F0 M T env σ H F R0 v d hd P p Q q => ?_⟩
  obtain ⟨ds, rfl, hl, p⟩ := p
  cases hd with
  | lst g1 g2 => exact ⟨_, _, rfl, .inl (.inl (R0.sub _ _ g1)), by rw [g2.len]; exact hl, a2 B F0 M T env σ H F R0 _ ds g2 P p Q q⟩
/-- a list of one's own as a settled one, in a test -/
def aBor (i : Nat) (τ : ATx) : ATx := fun env P => ∃ ds, env[i]? = some (.ow ds) ∧ τ (env.set i (.va (.list ds))) P
theorem jt_bor (i : Nat) {τ : ATx} (h : JT X e τ) : JT X e (aBor i τ) := by
  obtain ⟨t, a1, a2⟩ := h.ex
  refine ⟨t, a1, fun B F0 M T env σ H F R0 P p Q q => ?_⟩
  obtain ⟨ds, p1, p2⟩ := p
  have R0' : R (kw X) B F M T env σ H F := { R0 with f0 := Sub.refl F, new := fun _ _ h => .inl h }
  obtain ⟨F1, R1⟩ := R0'.frz p1
  exact a2 B F M T _ σ H F1 R1 P p2 Q fun b H' F' s pb => q b H' F ⟨fun a o z => s.sub a o (s.ext a o (R1.f0 a o z)), Sub.refl F, fun _ _ h => .inl h, s.keep, s.tc⟩ pb
end
end Ab

/-! extend on a list of one's own; a global that is plain data -/
namespace Ab
open PySem PySem.Spec PyProof.Rows L2
structure GD (K : KW) (mg : Str → Option Value) (x : Str) (d : DD) : Prop where
  ex : ∃ a, mg x = some (.ref a) ∧ ∀ F, Rp K F (.ref a) d
section
variable {X : Cx} {e : Expr} {pos p : Pos} {α : AEx} {x : Str}
theorem j_globD {d : DD} (h : GD (kw X) X.mg x d) (hg : Gl X x := by rfl) (hdb : (x == ("__debug__" : Str)) = false := by decide) : JE X (.Name x pos) (aC d) := by
  obtain ⟨a, h1, h2⟩ := h.ex
  exact ⟨_, pe_glob (v := .ref a) hg h1 rfl hdb, sim_c fun F => h2 F⟩
def aExt (i : Nat) (α : AEx) : ASx := fun A env => ∃ ds, env[i]? = some (.ow ds) ∧ α env fun d => ∃ es, d = .list es ∧ ds.length + es.length ≤ lineD ∧ A.nx (env.set i (.ow (ds ++ es)))
theorem js_ext (i : Nat) {px apos : Pos} (he : JE X e α) (hN : X.N[i]? = some x := by rfl) (hv : Vis X.env.scope x := by first | exact Or.inl rfl | exact Or.inr (Or.inl rfl) | exact Or.inr (Or.inr rfl)) (hd : (x == ("__debug__" : Str)) = false := by decide)
    (hcd : (x == ("__classdict__" : Str)) = false := by decide) (hbase : attributeBase (.Name x px) "extend" X.env (eval (.Name x px) X.env) = eval (.Name x px) X.env := by rfl)
    (hfew : ((backTo p (starEach [e] X.env)).all (fun x => !x.1) && (backToKw p (keywordEach [] X.env)).all (fun x => x.1.isSome)
      && decide ([e].length + ([] : List Keyword).length + (if ([] : List Keyword).isEmpty then 0 else 1) < 30)) = true := by rfl)
    (hline : (apos.endLine == p.line) = true := by rfl) (hs : starEach [e] X.env = (false, eval e X.env) :: starEach [] X.env := by rfl) (hplain : (backTo p (starEach [] X.env)).any (·.1) = false := by rfl)
    (hsw : swapsWith (.Call (.Attribute (.Name x px) "extend" apos) [e] [] p) none pos.line X.env = pure false := by rfl) : JS X (.Expr (.Call (.Attribute (.Name x px) "extend" apos) [e] [] p) pos) (aExt i α) := by
  obtain ⟨t, h1, h2⟩ := he.ex
  refine ⟨_, ps_expr (pe_bm PySem.F.plainAttrs_list PySem.F.slot_list_extend PySem.F.type_list_extend mt_extend (pe_var hN hv hd hcd) (pa_cons h1 pa_nil hs) hbase hfew hline hs hplain) hsw, fun B F0 M T env σ H F R0 A D l p => ?_⟩
  obtain ⟨ds, p1, p2⟩ := p
  obtain ⟨a, vs, e1, e2, e3, e4, e5, e6⟩ := R0.ow i ds p1
  refine ⟨_, e1, .inl ⟨rfl, vs, .inl (.inl e2)⟩, h2 B F0 M T env σ H F R0 _ p2 _ fun v d H1 F1 s1 d1 p3 => ?_⟩
  obtain ⟨es, rfl, p4, p5⟩ := p3
  obtain ⟨ws, f2, f6⟩ := (R0.step s1).owAt p1 e1
  cases d1 with
  | lst g1 g2 =>
    exact ⟨a, _, ws, _, rfl, rfl, f2, s1.sub _ _ g1, by rw [f6.len, g2.len]; exact Nat.le_trans p4 (by decide), l.nx T (env.set i (.ow (ds ++ es))) σ _ F1 ((R0.step s1).mut p1 e1 (f6.app g2)) p5⟩
end
end Ab

/-! dicts whose keys are nested tuples, over the hand layer -/
namespace Ab
open PySem PySem.Spec PyProof.Rows L2
section
variable {X : Cx} {pins : List (Addr × Obj)} {σ : L2.St} {H F : Hp} {s : Shared} {a b : Addr}
mutual
theorem kis1 (I : Inv X pins σ H s) (sb : Sub F H) : ∀ (d : DD) (v : V) (u : Value), keyD d = true → Rp (kw X) F v d → RelV v u → NestedIs s.heap (nk d) u
  | .none, _, _, _, h, r => by cases h; cases r; exact .none
  | .bool b, _, _, _, h, r => by cases h; cases r; exact .bool rfl
  | .int i, _, _, _, h, r => by cases h; obtain ⟨t, rfl⟩ := r; exact .int i t
  | .str x, _, _, _, h, r => by cases h; obtain ⟨t, rfl⟩ := r; exact .text x t
  | .tuple ds, _, _, k, h, r => by
    cases h with
    | tup g1 g2 =>
      cases r
      obtain ⟨its, rv, ⟨o, e1, e2, n, e3⟩, _⟩ := I.tuple (sb.seqT g1)
      rw [nk]
      exact .tup e1 e2 e3 (kisA I sb ds _ _ (by simpa [keyD] using k) g2 (by simpa using rv))
  | .list _, _, _, k, _, _ => by simp [keyD] at k
  | .dict _, _, _, k, _, _ => by simp [keyD] at k
theorem kisA (I : Inv X pins σ H s) (sb : Sub F H) : ∀ (ds : List DD) (vs : List V) (us : List Value), keyDs ds = true → RpAll (kw X) F vs ds → Vals vs us → NestedAll s.heap (nks ds) us
  | [], _, _, _, h, r => by cases h; cases r; exact .nil
  | d :: ds, _, _, k, h, r => by
    rw [keyDs, Bool.and_eq_true] at k
    cases h with
    | cons g1 g2 =>
      cases r with
      | cons r1 r2 =>
        rw [nks]
        exact .cons (kis1 I sb d _ _ k.1 g1 r1) (kisA I sb ds _ _ k.2 g2 r2)
end
def KIs (X : Cx) (H : Hp) (k : NestedKey) (b : Addr) : Prop := ∀ pins σ s, Inv X pins σ H s → (nestedKind X.prog X.w).is s.heap k b
theorem kis_of {d : DD} (sb : Sub F H) (hk : isKey d = true) (h : Rp (kw X) F (.ref b) d) : KIs X H (nk d) b := fun pins σ s I => by
  cases d with
  | tuple ds =>
    rw [isKey, Bool.and_eq_true] at hk
    exact ⟨kis1 I sb (.tuple ds) _ _ (by simpa [keyD] using hk.1) h rfl, of_decide_eq_true hk.2⟩
  | _ => simp [isKey] at hk
theorem key_ref {v : V} {d : DD} {K : KW} (hk : isKey d = true) (h : Rp K F v d) : ∃ b, v = .ref b := by
  cases h <;> first | exact ⟨_, rfl⟩ | simp [isKey] at hk
structure DOk (X : Cx) (H : Hp) (a : Addr) (o : Obj) (xs : List (NestedKey × Addr × Value)) : Prop where
  at_ : H a = some (KDo a o)
  ob : DO (kw X) a o xs
  ks : ∀ x ∈ xs, KIs X H x.1 x.2.1
theorem DOk.ht {o : Obj} {xs : List (NestedKey × Addr × Value)} (h : DOk X H a o xs) (I : Inv X pins σ H s) : s.heap.get? a = some o := by
  have := I.hok a _ h.at_
  exact this.1
theorem DOk.of {o : Obj} {xs : List (NestedKey × Addr × Value)} (h : DOk X H a o xs) (I : Inv X pins σ H s) : s.heap.DictOfH (nestedKind X.prog X.w) a xs := by
  obtain ⟨e1, ⟨es, ep, e2, e3⟩, e4, _⟩ := h.ob
  exact ⟨o, es, ep, h.ht I, e1, e2, e3, fun x hx => h.ks x hx pins σ s I, e4⟩
theorem DOk.nsys {o : Obj} {xs : List (NestedKey × Addr × Value)} (h : DOk X H a o xs) : (a == sysModules) = false := h.ob.2.2.2.1
theorem DOk.len {o : Obj} {xs : List (NestedKey × Addr × Value)} (h : DOk X H a o xs) : xs.length ≤ sizeLine := h.ob.2.2.2.2
theorem kv_keys {sb : Sub F H} : ∀ {xs : List (NestedKey × Addr × Value)} {kvs : List (DD × DD)}, RpKV (kw X) F xs kvs → ∀ x ∈ xs, KIs X H x.1 x.2.1
  | _, [], h, x, hx => by cases h; cases hx
  | _, (kd, vd) :: kvs, h, x, hx => by
    cases h with
    | cons h1 h2 h3 h4 h5 h6 =>
      rcases List.mem_cons.mp hx with rfl | hx
      · rw [h1]; exact kis_of sb h2 h3
      · exact kv_keys (sb := sb) h6 x hx
theorem dok_of {o : Obj} {xs : List (NestedKey × Addr × Value)} {kvs : List (DD × DD)} (sb : Sub F H) (h : H a = some (KDo a o)) (d : DO (kw X) a o xs) (r : RpKV (kw X) F xs kvs) : DOk X H a o xs := ⟨h, d, kv_keys (sb := sb) r⟩
theorem roomK {A : Around} (hu : A.units + 64 < cLine) : (nestedKind X.prog X.w).room A.in1 := by
  show A.units + 1 + 8 < cLine
  omega
theorem kdo_ok {P : Program} {w : World} {H : Hp} {h : Heap} {a : Addr} {o : Obj} (e : h.get? a = some o) : ObjOk P w H h a (KDo a o) := ⟨e, ⟨o, e⟩, fun h1 h2 e1 k => k _ e1⟩
theorem do_of {h : Heap} {a : Addr} {xs : List (NestedKey × Addr × Value)} (hm : h.DictOfH (nestedKind X.prog X.w) a xs) (hd : (a == sysModules) = false) (hl : xs.length ≤ sizeLine) : ∃ o, h.get? a = some o ∧ DO (kw X) a o xs := by
  obtain ⟨o, es, ep, h1, h2, h3, h4, _, h5⟩ := hm
  exact ⟨o, h1, h2, ⟨es, ep, h3, h4⟩, h5, hd, hl⟩
/-- k in d, k not in d -/
def rInN (X : Cx) (neg : Bool) : R2 := fun x y H Q => ∃ a o xs k b, y = .ref a ∧ DOk X H a o xs ∧ x = .ref b ∧ KIs X H k b ∧ Q (.bl (if neg then !(atKey xs k).isSome else (atKey xs k).isSome)) H
theorem op_inN (hu : X.A.units + 64 < cLine) : OpR X (compareOp .In) (rInN X false) := by
  intro pins s σ H x y v u Q I rx ry h
  obtain ⟨a, o, xs, k, b, rfl, hd, rfl, hk, q⟩ := h
  cases rx; cases ry
  exact wpAny_in_heap (roomK hu) (hk pins σ s I) hd.nsys (hd.of I) ⟨.bl _, H, I.tok _, rfl, q⟩
theorem op_notInN (hu : X.A.units + 64 < cLine) : OpR X (compareOp .NotIn) (rInN X true) := by
  intro pins s σ H x y v u Q I rx ry h
  obtain ⟨a, o, xs, k, b, rfl, hd, rfl, hk, q⟩ := h
  cases rx; cases ry
  exact wpAny_notIn_heap (roomK hu) (hk pins σ s I) hd.nsys (hd.of I) ⟨.bl _, H, I.tok _, rfl, q⟩
/-- d[k] -/
def rIxN (X : Cx) : R2 := fun x y H Q => ∃ a o xs k b p v, x = .ref a ∧ DOk X H a o xs ∧ y = .ref b ∧ KIs X H k b ∧ atKey xs k = some p ∧ RelV v p.2 ∧ Q v H
theorem ix_N (hu : X.A.units + 64 < cLine) : IxR X (rIxN X) := by
  intro value slice pins s σ H x y v u Q I rx ry h hs
  obtain ⟨a, o, xs, k, b, p, w', rfl, hd, rfl, hk, hp, rv, q⟩ := h
  cases rx; cases ry
  have hm := hd.of I
  exact subscriptTail_builtinR (x := p.2) hm.typeIs PySem.F.slot_dict_getitem.lookup
    (wpAny_getItem_heap (Q := fun r s' => r = p.2 ∧ EP X pins σ Q r s') (roomK hu) (hk pins σ s I) hm hp ⟨rfl, w', H, I.tok _, rv, q⟩) hs
/-- d.get(k, x) -/
def rGetN (X : Cx) : V → List V → Hp → VK → Prop := fun x vs H Q => ∃ a o xs k b z, x = .ref a ∧ DOk X H a o xs ∧ vs = [.ref b, z] ∧ KIs X H k b ∧ (∀ p v, atKey xs k = some p → RelV v p.2 → Q v H) ∧ (atKey xs k = none → Q z H) ∧ ∀ p, atKey xs k = some p → ∃ v, RelV v p.2
theorem mt_getN (hu : X.A.units + 64 < cLine) : MtR X "dict.get" (rGetN X) := by
  intro pins s σ H x vs v us Q I rx rv h
  obtain ⟨a, o, xs, k, b, z, rfl, hd, rfl, hk, q1, q2, q3⟩ := h
  cases rx
  cases rv with
  | @cons _ u1 _ _ r1 r2 =>
    cases r1
    cases r2 with
    | @cons _ u2 _ _ r3 r4 =>
      cases r4
      have hm := hd.of I
      refine getOr_keyed (knd := nestedKind X.prog X.w) (k := k) (roomK hu) (hk pins σ s I) hd.nsys ⟨xs, hm, rfl⟩ ?_
      rw [valueAt_pairsH]
      cases e : atKey xs k with
      | none => exact ⟨z, H, I.tok _, r3, q2 e⟩
      | some p =>
        obtain ⟨w', hw⟩ := q3 p e
        exact ⟨w', H, I.tok _, hw, q1 p w' e hw⟩
/-- d[k] = v -/
def rPutN (X : Cx) : TSet := fun o i v H Q => ∃ a ob xs k b, o = .ref a ∧ DOk X H a ob xs ∧ i = .ref b ∧ KIs X H k b ∧ xs.length < sizeLine ∧ ∀ ob' u, RelV v u → DO (kw X) a ob' (storedH xs k b u) → Q (upd H a (KDo a ob'))
theorem set_N (hu : X.A.units + 64 < cLine) : PSet X (rPutN X) := by
  intro pins s σ H o i v ov iv u Q I ro ri rv h
  obtain ⟨a, ob, xs, k, b, rfl, hd, rfl, hk, hz, q⟩ := h
  cases ro; cases ri
  refine wpAny_setItem_heap (hsz := Nat.le_of_lt hz) (knd := nestedKind X.prog X.w) (by show X.A.in1.units + 8 < cLine; exact (roomK (X := X) hu)) (hk pins σ s I) (hd.of I) fun h' hm' hs => ?_
  obtain ⟨o', e1, e2⟩ := do_of (X := X) hm' hd.nsys (Nat.le_trans (storedH_length xs k b u) hz)
  exact ⟨_, d_write I (by rw [hd.at_]; exact True.intro) hs ⟨o', e1⟩ (kdo_ok e1), q o' u rv e2⟩
/-- len(d) -/
def rLenN (X : Cx) : List V → Hp → VK → Prop := fun vs H Q => ∃ a o xs, vs = [.ref a] ∧ DOk X H a o xs ∧ Q (.int xs.length) H
theorem call_lenN : CallR X (.builtin "len") (rLenN X) := by
  intro pins s σ H vs us Q I r h
  obtain ⟨a, o, xs, rfl, hd, q⟩ := h
  obtain ⟨u, rfl, rx⟩ := vals1 r
  cases rx
  have hm := hd.of I
  have hl := hd.len
  refine PyProof.Rows.call_len_slot (n := (xs.length : Int)) hm.typeIs PySem.F.slot_dict_len (fun Q' hq => ?_) (by omega) (by rw [sizeLine_eq] at hl; omega) ⟨.int xs.length, H, I.tok _, ⟨_, rfl⟩, q⟩
  have hq' : Q' (.int (pairsH xs).length s.toks) { s with toks := s.toks + 1 } := by rw [pairsH_length]; exact hq
  exact len_keyed hd.nsys ⟨xs, hm, rfl⟩ hq'
/-- {} -/
def tNewN (X : Cx) : TE := fun _ H Q => ∀ p ob, H p = none → DO (kw X) p ob [] → Q (.ref p) (upd H p (KDo p ob))
theorem do_nil (I : Inv X pins σ H s) : DO (kw X) s.heap.objs.size { cls := .type "dict", data := .dict #[] } [] :=
  ⟨⟨rfl, rfl, rfl⟩, ⟨#[], 0, rfl, rfl⟩, List.nodup_nil, beq_eq_false_iff_ne.mpr (Ne.symm (Nat.ne_of_lt I.big)), Nat.zero_le _⟩
theorem inv_new (I : Inv X pins σ H s) : Inv X pins σ (upd H s.heap.objs.size (KDo s.heap.objs.size { cls := .type "dict", data := .dict #[] })) { s with heap := s.heap.push { cls := .type "dict", data := .dict #[] } } :=
  I.laid (a := s.heap.objs.size) (t' := s.toks) (fun _ _ q => Heap.get?_push_of_some _ q) (Nat.le_refl _) (kdo_ok (Heap.get?_push_size _ rfl))
theorem pe_dnewN {pos : Pos} : PE X (.Dict [] [] pos) (tNewN X) := ⟨fun pins s σ H Q I h =>
  wpAny_Dict_empty ⟨.ref s.heap.objs.size, _, inv_new I, rfl, h _ _ (I.hok.fresh (Nat.le_refl _)) (do_nil I)⟩⟩
/-- {k: v} -/
def jOneN (X : Cx) (Q : VK) (p : Addr) (ob : Obj) : List (V × V) → Hp → Prop := fun ps H2 => H2 p = some (KDo p ob) ∧ ∃ b k v, ps = [(.ref b, v)] ∧ KIs X H2 k b ∧ ∀ ob' u, RelV v u → DO (kw X) p ob' [(k, b, u)] → Q (.ref p) (upd H2 p (KDo p ob'))
def tOneN (X : Cx) (tk tv : TE) : TE := fun σ H Q => ∀ p ob, H p = none → DO (kw X) p ob [] → tk σ (upd H p (KDo p ob)) fun y H1 => tv σ H1 fun v H2 => jOneN X Q p ob [(y, v)] H2
theorem pe_oneN {pos : Pos} {ek ev : Expr} {tk tv : TE} (hu : X.A.units + 64 < cLine) (hk : PE X ek tk) (hv : PE X ev tv) : PE X (.Dict [some ek] [ev] pos) (tOneN X tk tv) := by
  refine ⟨fun pins s σ H Q I q => ?_⟩
  have hn := I.hok.fresh (Nat.le_refl s.heap.objs.size)
  have h := pps_cons (pos := pos) hk hv pps_nil
  have hnil := do_nil I
  have hrun := h.run pins _ σ _ (jOneN X Q s.heap.objs.size { cls := .type "dict", data := .dict #[] }) (inv_new I) (q _ _ hn hnil)
  have hsh : (evalEachOpt [some ek] X.env).zip ((evalEach [ev] X.env).map fun v => do let x ← v; standAt pos; pure x) = (pairTrees [some ek] [ev] X.env pos).map fun p => (some p.1, p.2) := by rfl
  rw [arm_eval_Dict, hsh, dictDisplay_pairs _ (by intro z; cases z) (by show 1 < 17; decide)]
  refine wpAny_bind (wpAny_standAt (wpAny_bind (wpAny_subDictH (knd := nestedKind X.prog X.w) (by show X.A.units + 8 < cLine; omega) (by show 1 ≤ 15; decide) ?_)))
  refine thn hrun fun ws s2 ⟨ps, H2, I2, rel, e, b, k, v, ep, hkk, q2⟩ => ?_
  subst ep
  cases rel with
  | @cons _ w1 _ _ r1 r2 =>
    cases r2
    obtain ⟨w1a, w1b⟩ := w1
    obtain ⟨r1a, r1b⟩ := r1
    cases r1a
    have dk : DOk X H2 s.heap.objs.size { cls := .type "dict", data := .dict #[] } [] := ⟨e, hnil, fun x hx => by cases hx⟩
    refine ⟨[(k, b, w1b)], ⟨rfl, rfl, hkk pins σ s2 I2, True.intro⟩, dk.of I2, fun h' tk' hm hs => wpAny_pure ?_⟩
    have hm' : h'.DictOfH (nestedKind X.prog X.w) s.heap.objs.size [(k, b, w1b)] := hm
    obtain ⟨o', e1, e2⟩ := do_of (X := X) hm' hnil.2.2.2.1 (by show 1 ≤ sizeLine; decide)
    exact ⟨.ref s.heap.objs.size, _, d_write (t' := tk') I2 (by rw [e]; exact True.intro) hs ⟨o', e1⟩ (kdo_ok e1), rfl, q2 o' w1b r1b e2⟩
/-- d.items(), each pair a new tuple -/
def ItN (d : Addr) (o : Obj) (xs : List (NestedKey × Addr × Value)) (vs : List V) : It := ⟨fun i H => H d = some (KDo d o) ∧ i < xs.length,
  fun i H x H' => ∃ y T v, xs[i]? = some y ∧ vs[i]? = some v ∧ x = .ref T ∧ H T = none ∧ H' = upd H T (.tup [.ref y.2.1, v]), fun i H => H d = some (KDo d o) ∧ xs.length ≤ i⟩
theorem raw_of {K : KW} {o : Obj} {xs : List (NestedKey × Addr × Value)} (d : DO K a o xs) : ∃ es ep, o.data = .dict es ep ∧ es.size = xs.length ∧ ∀ i (hi : i < es.size), ∃ y, xs[i]? = some y ∧ es[i].key = .ref y.2.1 ∧ es[i].val = y.2.2 := by
  obtain ⟨_, ⟨es, ep, h1, h2⟩, _⟩ := d
  have hs : es.size = xs.length := by
    have := congrArg List.length h2
    simpa using this
  refine ⟨es, ep, h1, hs, fun i hi => ?_⟩
  have hx : i < xs.length := by omega
  refine ⟨xs[i], List.getElem?_eq_getElem hx, ?_⟩
  have : es.toList[i]? = (xs.map (entryOfKey (knd K)))[i]? := by rw [h2]
  rw [List.getElem?_map, List.getElem?_eq_getElem hx, List.getElem?_eq_getElem (by simpa using hi)] at this
  have e : es[i] = entryOfKey (knd K) xs[i] := by simpa using this
  rw [e]
  exact ⟨rfl, rfl⟩
theorem turn_itemsN {P : Program} {w : World} {K : PySem.W.Frag} {o : Obj} {xs : List (NestedKey × Addr × Value)} {vs : List V} {elts : List Expr} {kk : Nat} {tpos : Pos} {d : Addr} {es : Array DictEntry} {ep : Nat} (it : Addr) (hod : o.data = .dict es ep) (hex : o.ExactDict) (hs : es.size = xs.length) (hxs : ∀ i (hi : i < es.size), ∃ y, xs[i]? = some y ∧ es[i].key = .ref y.2.1 ∧ es[i].val = y.2.2) (rv : Vals vs (xs.map fun x => x.2.2)) :
    Turn P w K (.Tuple elts kk tpos) (ItN d o xs vs) [it] it (fun i h => ∃ ok ov, IsItemIter h it d i es.size ep ok ov) where
  mem := by simp
  obj := fun i h st b hb => by
    have e : b = it := by simpa using hb
    subst e
    obtain ⟨ok, ov, e⟩ := st
    exact ⟨_, e, fun v z => nomatch z⟩
  keep := fun i h h' st k => let ⟨ok, ov, e⟩ := st; ⟨ok, ov, k it (by simp) _ e⟩
  item := by
    intro X hP hw hK hc i pins s σ H E I hf st hg
    subst hP hw hK
    obtain ⟨hd, hi⟩ := hg
    have ho : s.heap.get? d = some o := (I.hok d _ hd).1
    have hr : s.heap.DictRaw d es ep := ⟨o, ho, hex, hod⟩
    have hie : i < es.size := by omega
    obtain ⟨y, hy, ek, ev⟩ := hxs i hie
    obtain ⟨ok, ov, he⟩ := st
    have hlt : it < s.heap.objs.size := Heap.lt_size he
    have hvl : vs.length = xs.length := by rw [rv.length, List.length_map]
    have hv : vs[i]? = some vs[i] := List.getElem?_eq_getElem (by omega)
    obtain ⟨u, hu, ru⟩ := rv.get hv
    rw [List.getElem?_map, hy] at hu
    cases hu
    refine wpAny_pyNext_items_item_raw he hr hie fun h' ho' hT hz hk => ?_
    refine ⟨_, rfl, wpAny_letOwnedTupleGo_items (s := { s with heap := h' }) ho' fun h'' he' sb => ?_⟩
    rw [ek, ev] at hT
    have hT2 : h''.get? s.heap.objs.size = some { cls := .type "tuple", data := .seq #[.ref y.2.1, y.2.2] } := (sb.2 _ (Nat.ne_of_gt hlt)).trans hT
    have new : ObjOk X.prog X.w (upd H s.heap.objs.size (.tup [.ref y.2.1, vs[i]])) h'' s.heap.objs.size (.tup [.ref y.2.1, vs[i]]) :=
      ⟨by show 2 ≤ sizeLine; decide, [.ref y.2.1, y.2.2], .cons rfl (.cons ru .nil), ⟨_, hT2, rfl, _, rfl⟩⟩
    have I1 : Inv X pins σ (upd H s.heap.objs.size (.tup [.ref y.2.1, vs[i]])) { s with heap := h'' } :=
      I.turnedNew (t' := s.toks) (ch := [it]) (fun b ob hb e => (sb.2 b (by simpa using hb)).trans (hk b ob (by simpa using hb) e)) hf (Nat.le_refl _) new
    refine ⟨.ref s.heap.objs.size, _, I1, rfl, ⟨y, _, _, hy, hv, rfl, I.hok.fresh (Nat.le_refl _), rfl⟩, ⟨_, _, he'⟩, fun b hb => ?_⟩
    have e : b = it := by simpa using hb
    rw [e, upd_ne (Nat.ne_of_lt hlt)]
    exact (hf it (by simp)).1
  done := by
    intro X hP hw hK hc i pins s σ H E I hf st hg
    subst hP hw hK
    obtain ⟨hd, hi⟩ := hg
    have ho : s.heap.get? d = some o := (I.hok d _ hd).1
    have hr : s.heap.DictRaw d es ep := ⟨o, ho, hex, hod⟩
    obtain ⟨f0, f1, f2, f3, f4, f5⟩ := hf it (by simp)
    obtain ⟨ok, ov, he⟩ := st
    exact wpAny_pyNext_items_end_raw (I.ok.hd hc) he hr (by omega) fun h' eb => ⟨rfl, I.turned (t' := s.toks) (fun b ob hb e => eb b ob hb e) f0 f1 f3 f4 f5⟩
  self := fun A i s Q E st h => let ⟨_, _, e⟩ := st; PySem.W.kcp_self e h
def iItemsN (X : Cx) (td : TE) : TI := fun σ H R => td σ H fun x H1 => ∃ d o xs vs, x = .ref d ∧ DOk X H1 d o xs ∧ Vals vs (xs.map fun x => x.2.2) ∧ R (ItN d o xs vs) H1
theorem pi_itemsN {e : Expr} {td : TE} {apos cpos : Pos} {elts : List Expr} {kk : Nat} {tpos : Pos} (he : PE X e td) (hbase : attributeBase e "items" X.env (eval e X.env) = eval e X.env := by rfl) (hline : (apos.endLine == cpos.line) = true := by rfl) :
    PI X (.Tuple elts kk tpos) (.Call (.Attribute e "items" apos) [] [] cpos) (iItemsN X td) := by
  refine ⟨fun pins s σ H R I h => ?_⟩
  refine wpAny_Call_method (T := "dict") (id := "dict.items") hbase rfl hline PySem.F.plainAttrs_dict PySem.F.slot_dict_items PySem.F.type_dict_items (thn (he.run pins s σ H _ I h) fun u s1 ⟨x, H1, I1, rx, d, o, xs, vs, ex, hd, rv, q⟩ => ?_)
  subst ex
  obtain rfl : u = Value.ref d := rx
  obtain ⟨es, ep, hod, hsz, hxs⟩ := raw_of hd.ob
  have ho := hd.ht I1
  have hr : s1.heap.DictRaw d es ep := ⟨o, ho, hd.ob.1, hod⟩
  refine ⟨hr.typeIs, fun b z => by cases z; exact ⟨o, ho, hd.ob.1.2.1⟩, ?_⟩
  have I2 : Inv X pins σ H1 { s1 with heap := s1.heap.push { cls := .type "dict_items", data := .fields #[.ref d] } } := I1.kept (t' := s1.toks) fun b ob q => Heap.get?_push_of_some _ q
  have fin : wpAny (model X.prog X.w) X.A (pyIter (.ref s1.heap.objs.size)) (PIE X pins σ (.Tuple elts kk tpos) R) X.xe { s1 with heap := s1.heap.push { cls := .type "dict_items", data := .fields #[.ref d] } } := by
    refine wpAny_pyIter_items_raw (d := d) ⟨_, Heap.get?_push_size _ rfl, rfl, rfl⟩ (hr.at fun o' e' => Heap.get?_push_of_some _ e') (pi_one (tk := s1.toks) I2 _ (turn_itemsN _ hod hd.ob.1 hsz hxs rv) ⟨.none, .none, ?_⟩ q)
    exact Heap.get?_push_size _ rfl
  show wpAny _ _ (callWith cpos (.builtin "dict.items") [.ref d] [] []) _ X.xe s1
  exact method_meetsIn PySem.F.slot_dict_items PySem.F.entry_dict_items rfl (PySem.evalArgs_none ⟨rfl, hr.typeIs, PySem.F.args_dict_items_1 _, _, meets_dict_items_raw d hd.nsys, ⟨⟨es, ep, hr⟩, fin⟩⟩)
end
end Ab

/-! dicts with nested keys, over data -/
namespace Ab
open PySem PySem.Spec PyProof.Rows L2
def dfind (kvs : List (DD × DD)) (k : NestedKey) : Option DD := (kvs.find? fun p => decide (nk p.1 = k)).map (·.2)
def dhas (kvs : List (DD × DD)) (k : NestedKey) : Bool := (dfind kvs k).isSome
def dput (kvs : List (DD × DD)) (kd vd : DD) : List (DD × DD) :=
  if dhas kvs (nk kd) = true then kvs.map (fun p => if nk p.1 = nk kd then (p.1, vd) else p) else kvs ++ [(kd, vd)]
theorem dfind_nil (k : NestedKey) : dfind [] k = none := rfl
theorem dfind_cons (p : DD × DD) (kvs : List (DD × DD)) (k : NestedKey) : dfind (p :: kvs) k = if nk p.1 = k then some p.2 else dfind kvs k := by
  unfold dfind
  rw [List.find?_cons]
  by_cases e : nk p.1 = k
  · rw [decide_eq_true e, if_pos e]; rfl
  · rw [decide_eq_false e, if_neg e]
section
variable {K : KW} {F : Hp}
theorem kv_find : ∀ {xs : List (NestedKey × Addr × Value)} {kvs : List (DD × DD)} (k : NestedKey), RpKV K F xs kvs → (atKey xs k = none ∧ dfind kvs k = none) ∨ ∃ p d v, atKey xs k = some p ∧ dfind kvs k = some d ∧ RelV v p.2 ∧ Rp K F v d
  | _, [], k, h => by cases h; exact .inl ⟨rfl, rfl⟩
  | _, (kd, vd) :: kvs, k, h => by
    cases h with
    | @cons x xs v _ _ _ h1 h2 h3 h4 h5 h6 =>
      rw [dfind_cons]
      by_cases e : nk kd = k
      · refine .inr ⟨x.2, vd, v, ?_, if_pos e, h4, h5⟩
        unfold atKey
        rw [List.find?_cons, decide_eq_true (h1.trans e)]; rfl
      · rw [if_neg e]
        have : atKey (x :: xs) k = atKey xs k := by
          unfold atKey
          rw [List.find?_cons, decide_eq_false (fun z => e (h1.symm.trans z))]
        rw [this]
        exact kv_find k h6
theorem kv_has {xs : List (NestedKey × Addr × Value)} {kvs : List (DD × DD)} (k : NestedKey) (h : RpKV K F xs kvs) : (atKey xs k).isSome = dhas kvs k := by
  unfold dhas
  rcases kv_find k h with ⟨h1, h2⟩ | ⟨p, d, v, h1, h2, _⟩ <;> rw [h1, h2] <;> rfl
theorem kv_len : ∀ {xs : List (NestedKey × Addr × Value)} {kvs : List (DD × DD)}, RpKV K F xs kvs → xs.length = kvs.length
  | _, [], h => by cases h; rfl
  | _, (kd, vd) :: kvs, h => by
    cases h with
    | cons h1 h2 h3 h4 h5 h6 => rw [List.length_cons, List.length_cons, kv_len h6]
theorem kv_app : ∀ {xs ys : List (NestedKey × Addr × Value)} {kvs mvs : List (DD × DD)}, RpKV K F xs kvs → RpKV K F ys mvs → RpKV K F (xs ++ ys) (kvs ++ mvs)
  | _, _, [], _, h, g => by cases h; exact g
  | _, _, (kd, vd) :: kvs, _, h, g => by
    cases h with
    | cons h1 h2 h3 h4 h5 h6 => exact .cons h1 h2 h3 h4 h5 (kv_app h6 g)
theorem kv_map {kd vd : DD} {u : Value} {v : V} (rv : RelV v u) (hv : Rp K F v vd) : ∀ {xs : List (NestedKey × Addr × Value)} {kvs : List (DD × DD)}, RpKV K F xs kvs → RpKV K F (xs.map (putAt (nk kd) u)) (kvs.map fun p => if nk p.1 = nk kd then (p.1, vd) else p)
  | _, [], h => by cases h; exact .nil
  | _, (ke, ve) :: kvs, h => by
    cases h with
    | @cons x xs w _ _ _ h1 h2 h3 h4 h5 h6 =>
      rw [List.map_cons, List.map_cons]
      have ih := kv_map rv hv (kd := kd) h6
      unfold putAt at ih ⊢
      by_cases e : nk ke = nk kd
      · rw [if_pos (h1.trans e), if_pos e]
        exact .cons (x := (x.1, x.2.1, u)) h1 h2 h3 rv hv ih
      · rw [if_neg (fun z => e (h1.symm.trans z)), if_neg e]
        exact .cons h1 h2 h3 h4 h5 ih
theorem kv_put {xs : List (NestedKey × Addr × Value)} {kvs : List (DD × DD)} {kd vd : DD} {b : Addr} {u : Value} {v : V} (h : RpKV K F xs kvs) (hk : isKey kd = true) (hb : Rp K F (.ref b) kd) (rv : RelV v u) (hv : Rp K F v vd) : RpKV K F (storedH xs (nk kd) b u) (dput kvs kd vd) := by
  unfold storedH dput
  rw [kv_has _ h]
  by_cases e : dhas kvs (nk kd) = true
  · rw [if_pos e, if_pos e]; exact kv_map rv hv h
  · rw [if_neg e, if_neg e]
    exact kv_app h (.cons (x := (nk kd, b, u)) rfl hk hb rv hv .nil)
theorem dput_len (kvs : List (DD × DD)) (kd vd : DD) : (dput kvs kd vd).length ≤ kvs.length + 1 := by
  unfold dput
  split
  · rw [List.length_map]; omega
  · rw [List.length_append, List.length_cons, List.length_nil]
    omega
theorem kv_vals : ∀ {xs : List (NestedKey × Addr × Value)} {kvs : List (DD × DD)}, RpKV K F xs kvs → ∃ vs, Vals vs (xs.map fun x => x.2.2) ∧ RpAll K F vs (kvs.map (·.2)) ∧ ∀ (i : Nat) y v, xs[i]? = some y → vs[i]? = some v → ∃ p, kvs[i]? = some p ∧ Rp K F (.ref y.2.1) p.1 ∧ Rp K F v p.2
  | _, [], h => by
    cases h
    exact ⟨[], .nil, .nil, fun i y v e => by simp at e⟩
  | _, (ke, ve) :: kvs, h => by
    cases h with
    | @cons x xs w _ _ _ h1 h2 h3 h4 h5 h6 =>
      obtain ⟨vs, g1, g2, g3⟩ := kv_vals h6
      refine ⟨w :: vs, .cons h4 g1, .cons h5 g2, fun i y v e1 e2 => ?_⟩
      cases i with
      | zero =>
        cases Option.some.inj e1
        cases Option.some.inj e2
        exact ⟨_, rfl, h3, h5⟩
      | succ i => exact g3 i y v (by simpa using e1) (by simpa using e2)
end
section
variable {X : Cx} {e a b c : Expr} {es : List Expr} {pos p : Pos} {α β γ : AEx} {τ υ : ATx} {x y : Str} {K : KW}
/-- k in d -/
def dInD (neg : Bool) : DD → DD → (DD → Prop) → Prop := fun x y P => ∃ kvs, y = .dict kvs ∧ isKey x = true ∧ P (.bool (if neg then !dhas kvs (nk x) else dhas kvs (nk x)))
theorem sr_inD {neg : Bool} : SimR (kw X) (rInN X neg) (dInD neg) := fun T H F x y dx dy b hx hy P p Q q => by
  obtain ⟨kvs, rfl, hk, p⟩ := p
  obtain ⟨kb, rfl⟩ := key_ref hk hx
  cases hy with
  | @dct a o xs _ h1 h2 h3 =>
    refine ⟨a, o, xs, nk dx, kb, rfl, dok_of b.sub (b.sub _ _ h1) h2 h3, rfl, kis_of b.sub hk hx, ?_⟩
    rw [kv_has _ h3]
    exact q _ _ H F (.refl b) (.bl _) p
theorem j_inD (hu : X.A.units + 64 < cLine) (ha : JE X a α) (hb : JE X b β) (hm : behindInMarks .In b = false := by rfl) : JE X (.Compare a [.In] [b] pos) (aB (dInD false) α β) := j_cmp (op_inN hu) sr_inD ha hb hm
theorem j_notinD (hu : X.A.units + 64 < cLine) (ha : JE X a α) (hb : JE X b β) (hm : behindInMarks .NotIn b = false := by rfl) : JE X (.Compare a [.NotIn] [b] pos) (aB (dInD true) α β) := j_cmp (op_notInN hu) sr_inD ha hb hm
theorem jt_inD (hu : X.A.units + 64 < cLine) (ha : JE X a α) (hb : JE X b β) (hm : behindInMarks .In b = false := by rfl) : JT X (.Compare a [.In] [b] pos) (aT (aB (dInD false) α β)) := jt_cmp (op_inN hu) sr_inD ha hb hm
theorem jt_notinD (hu : X.A.units + 64 < cLine) (ha : JE X a α) (hb : JE X b β) (hm : behindInMarks .NotIn b = false := by rfl) : JT X (.Compare a [.NotIn] [b] pos) (aT (aB (dInD true) α β)) := jt_cmp (op_notInN hu) sr_inD ha hb hm
/-- d[k] -/
def dIxD : DD → DD → (DD → Prop) → Prop := fun x y P => ∃ kvs d, x = .dict kvs ∧ isKey y = true ∧ dfind kvs (nk y) = some d ∧ P d
theorem sr_ixD : SimR (kw X) (rIxN X) dIxD := fun T H F x y dx dy b hx hy P p Q q => by
  obtain ⟨kvs, d, rfl, hk, hd, p⟩ := p
  obtain ⟨kb, rfl⟩ := key_ref hk hy
  cases hx with
  | @dct a o xs _ h1 h2 h3 =>
    rcases kv_find (nk dy) h3 with ⟨_, e⟩ | ⟨pp, d', v, e1, e2, e3, e4⟩
    · rw [hd] at e; cases e
    · rw [hd] at e2; cases e2
      exact ⟨a, o, xs, nk dy, kb, pp, v, rfl, dok_of b.sub (b.sub _ _ h1) h2 h3, rfl, kis_of b.sub hk hy, e1, e3, q v _ H F (.refl b) e4 p⟩
theorem j_ixD (hu : X.A.units + 64 < cLine) (ha : JE X a α) (hb : JE X b β) (hs : PlainIx b := by intro _ _; rfl) : JE X (.Subscript a b pos) (aB dIxD α β) := by
  obtain ⟨ta, a1, a2⟩ := ha.ex
  obtain ⟨tb, b1, b2⟩ := hb.ex
  exact ⟨_, pe_ix (ix_N hu) a1 b1 hs, sim_op sr_ixD a2 b2⟩
/-- len(d) -/
def dLenD : List DD → (DD → Prop) → Prop := fun ds P => ∃ kvs, ds = [.dict kvs] ∧ P (.int kvs.length)
theorem sc_lenD : SimC (kw X) (rLenN X) dLenD := fun T H F vs ds b hd P p Q q => by
  obtain ⟨kvs, rfl, p⟩ := p
  obtain ⟨v, rfl, h⟩ := one_of hd
  cases h with
  | @dct a o xs _ h1 h2 h3 => exact ⟨a, o, xs, rfl, dok_of b.sub (b.sub _ _ h1) h2 h3, by rw [kv_len h3]; exact q _ _ H F (.refl b) (.int _) p⟩
/-! a thing of one's own lent -/
def aBorG (i : Nat) (τ : ATx) : ATx := fun env P => ∃ g, env[i]? = some (.og g) ∧ g.ok ∧ τ (env.set i (.va g.d)) P
theorem jt_borG (i : Nat) {τ : ATx} (h : JT X e τ) : JT X e (aBorG i τ) := by
  obtain ⟨t, a1, a2⟩ := h.ex
  refine ⟨t, a1, fun B F0 M T env σ H F R0 P p Q q => ?_⟩
  obtain ⟨ds, p1, pk, p2⟩ := p
  have R0' : R (kw X) B F M T env σ H F := { R0 with f0 := Sub.refl F, new := fun _ _ h => .inl h }
  obtain ⟨F1, R1⟩ := R0'.frzG p1 pk
  exact a2 B F M T _ σ H F1 R1 P p2 Q fun b H' F' s pb => q b H' F ⟨fun a o z => s.sub a o (s.ext a o (R1.f0 a o z)), Sub.refl F, fun _ _ h => .inl h, s.keep, s.tc⟩ pb
def aBorV (i : Nat) (α : AEx) : AEx := fun env P => ∃ g, env[i]? = some (.og g) ∧ g.ok ∧ α (env.set i (.va g.d)) fun d => flatD d = true ∧ P d
theorem flat_any {F G : Hp} {v : V} {d : DD} (h : Rp K F v d) (f : flatD d = true) : Rp K G v d := by
  cases h with
  | non => exact .non
  | bl b => exact .bl b
  | int i => exact .int i
  | str x => exact .str x
  | lst a b => simp [flatD] at f
  | tup a b => simp [flatD] at f
  | dct a b c => simp [flatD] at f
theorem je_borV (i : Nat) (h : JE X e α) : JE X e (aBorV i α) := by
  obtain ⟨t, a1, a2⟩ := h.ex
  refine ⟨t, a1, fun B F0 M T env σ H F R0 P p Q q => ?_⟩
  obtain ⟨ds, p1, pk, p2⟩ := p
  have R0' : R (kw X) B F M T env σ H F := { R0 with f0 := Sub.refl F, new := fun _ _ h => .inl h }
  obtain ⟨F1, R1⟩ := R0'.frzG p1 pk
  exact a2 B F M T _ σ H F1 R1 _ p2 Q fun v d H' F' s rd pb => q v d H' F ⟨fun a o z => s.sub a o (s.ext a o (R1.f0 a o z)), Sub.refl F, fun _ _ h => .inl h, s.keep, s.tc⟩ (flat_any rd pb.1) pb.2
/-- a thing of one's own settled -/
def aFrzG (i : Nat) (s : ASx) : ASx := fun A env => ∃ g, env[i]? = some (.og g) ∧ g.ok ∧ s A (env.set i (.va g.d))
theorem jss_frzG {sts : List Stmt} {s : ASx} (i : Nat) (h : JSs X sts s) : JSs X sts (aFrzG i s) := by
  obtain ⟨t, h1, h2⟩ := h.ex
  refine ⟨_, h1, fun B F0 M T env σ H F R0 A D l p => ?_⟩
  obtain ⟨ds, p1, pk, p2⟩ := p
  obtain ⟨F', r⟩ := R0.frzG p1 pk
  exact h2 B F0 M T _ σ H F' r A D l p2
/-! new dicts -/
theorem Stp.mod {T : Tws K} {H F H' F' : Hp} {p : Addr} {o : HO} (s : Stp T H F H' F') (b : Bs T H F) (hH : H p = none) (hF : F' p = none) (hm : H' p = none ∨ Mut (H' p)) : Stp T H F (upd H' p o) F' := by
  have nt : ∀ a, T a → a ≠ p := fun a t z => by
    obtain ⟨_, w⟩ := Tws.has (b.tw a t).2
    rw [z, hH] at w; cases w
  refine ⟨fun a u e => ?_, s.ext, s.new, fun a u e t => ?_, fun a t => ?_⟩
  · have : a ≠ p := fun z => by rw [z, hF] at e; cases e
    rw [upd_ne this]; exact s.sub a u e
  · have : a ≠ p := fun z => by rw [z, hH] at e; cases e
    rw [upd_ne this]; exact s.keep a u e t
  · exact Tws.mono (s.tc a t) (nt a t) hm
theorem R.fresh {B F0 : Hp} {M T : Tws K} {env : AE} {σ : L2.St} {H F : Hp} (r : R K B F0 M T env σ H F) {a : Addr} (h : H a = none) : B a = none ∧ ¬ T a ∧ ∀ (j : Nat) g, env[j]? = some (.og g) → σ[j]? ≠ some (some (.ref a)) := by
  refine ⟨r.toGd.dom h, fun t => ?_, fun j g hj hσ => ?_⟩
  · obtain ⟨_, z⟩ := Tws.has (r.toGd.tw a t).2.1
    rw [h] at z; cases z
  · obtain ⟨b, u, e1, e2, _⟩ := r.og j g hj
    rw [hσ] at e1
    cases Option.some.inj e1
    rw [h] at e2; cases e2
def aDNew (i : Nat) : ASx := fun A env => A.nx (env.set i (.dc []))
theorem js_dnew (i : Nat) {px pd : Pos} (nd : X.N.Nodup) (hi : X.N[i]? = some x := by rfl) (hx : Loc X.env.scope x := by first | exact Or.inl rfl | exact Or.inr rfl) (hs : swapsWith (.Dict [] [] pd) (some (.Name x px)) pos.line X.env = pure false := by rfl)
    (hf : X.fn x = true ∨ X.env.scope.names.lookup x = some .local := by first | exact .inl rfl | exact .inr rfl | assumption) : JS X (.Assign [.Name x px] (.Dict [] [] pd) pos) (aDNew i) := by
  refine ⟨_, ps_set nd hi hx pe_dnewN hs hf, fun B F0 M T env σ H F R0 A D l p => fun q ob hq hd => ?_⟩
  obtain ⟨f1, f2, f3⟩ := R0.fresh hq
  have s : Stp T H F (upd H q (KDo q ob)) F := .al0 R0.bs hq
  exact l.nx T _ _ _ F ((R0.step s).putG upd_same (fnone R0.bs hq) f1 f2 (.dct hd .nil) (fun j g _ hj => f3 j g hj) (R0.lnf hq)) p
def aDOne (i : Nat) (α β : AEx) : ASx := fun A env => α env fun kd => β env fun vd => isKey kd = true ∧ A.nx (env.set i (.dc [(kd, vd)]))
theorem stp_none {T : Tws K} {H F H' F' : Hp} (s : Stp T H F H' F') {a : Addr} {o : HO} (h : F a = none) (g : H a = some o) : F' a = none := by
  cases e : F' a with
  | none => rfl
  | some u =>
    rcases s.new a u e with z | z
    · rw [h] at z; cases z
    · rw [g] at z; cases z
theorem js_done (i : Nat) {px pd : Pos} (hu : X.A.units + 64 < cLine) (nd : X.N.Nodup) (ha : JE X a α) (hb : JE X b β) (hi : X.N[i]? = some x := by rfl) (hx : Loc X.env.scope x := by first | exact Or.inl rfl | exact Or.inr rfl) (hs : swapsWith (.Dict [some a] [b] pd) (some (.Name x px)) pos.line X.env = pure false := by rfl)
    (hf : X.fn x = true ∨ X.env.scope.names.lookup x = some .local := by first | exact .inl rfl | exact .inr rfl | assumption) : JS X (.Assign [.Name x px] (.Dict [some a] [b] pd) pos) (aDOne i α β) := by
  obtain ⟨ta, a1, a2⟩ := ha.ex
  obtain ⟨tb, b1, b2⟩ := hb.ex
  refine ⟨_, ps_set nd hi hx (pe_oneN hu a1 b1) hs hf, fun B F0 M T env σ H F R0 A D l p => fun q ob hq hd => ?_⟩
  obtain ⟨f1, f2, f3⟩ := R0.fresh hq
  have s : Stp T H F (upd H q (KDo q ob)) F := .al0 R0.bs hq
  have R1 := R0.step s
  have fq := fnone R0.bs hq
  refine a2 B F0 M T env σ _ F R1 _ p _ fun kv kd H1 F1 s1 dk p1 => b2 B F0 M T env σ H1 F1 (R1.step s1) _ p1 _ fun vv vd H2 F2 s2 dv p2 => ?_
  obtain ⟨hk, p2⟩ := p2
  have s12 := s1.trans s2
  have dk2 := Rp.sub s2.ext _ dk
  obtain ⟨kb, rfl⟩ := key_ref hk dk
  refine ⟨s12.keep q _ upd_same f2, kb, nk kd, vv, rfl, kis_of (R1.step s12).sub hk dk2, fun ob' u ru hd' => ?_⟩
  have fq2 : F2 q = none := stp_none s12 fq upd_same
  have s3 : Stp T H F (upd H2 q (KDo q ob')) F2 := (s.trans s12).mod R0.bs hq fq2 (.inr (by rw [s12.keep q _ upd_same f2]; trivial))
  exact l.nx T _ _ _ F2 ((R0.step s3).putG upd_same fq2 f1 f2 (.dct hd' (.cons (x := (nk kd, kb, u)) rfl hk dk2 ru dv .nil)) (fun j g _ hj => f3 j g hj) (R0.lnf hq)) p2
/-- d[k] = e, d a dict of one's own -/
def aDPut (i : Nat) (κ α : AEx) : ASx := fun A env => ∃ kvs, env[i]? = some (.dc kvs) ∧ α env fun vd => κ env fun kd => isKey kd = true ∧ kvs.length < lineD ∧ A.nx (env.set i (.dc (dput kvs kd vd)))
theorem js_dput (i : Nat) {px : Pos} (hu : X.A.units + 64 < cLine) (hk : JE X b β) (he : JE X e α) (hN : X.N[i]? = some x := by rfl) (hv : Vis X.env.scope x := by first | exact Or.inl rfl | exact Or.inr (Or.inl rfl) | exact Or.inr (Or.inr rfl)) (hd : (x == ("__debug__" : Str)) = false := by decide)
    (hcd : (x == ("__classdict__" : Str)) = false := by decide) (ha : ∀ v, assign (.Subscript (.Name x px) b p) X.env v = (do
      let ov ← holding [v] (eval (.Name x px) X.env)
      let iv ← holding [v, ov] (eval b X.env)
      standAt p
      holding [v, ov, iv] (setItem ov iv v)
      release [v, ov, iv] []) := by intro _; rfl) (hs : swapsWithSole [.Subscript (.Name x px) b p] e pos.line X.env = pure false := by rfl) (hw : swappedStores [.Subscript (.Name x px) b p] e X.env = pure none := by rfl)
    (h1 : (assignEach [.Subscript (.Name x px) b p] X.env).map (·.2) = [assign (.Subscript (.Name x px) b p) X.env] := by rfl) : JS X (.Assign [.Subscript (.Name x px) b p] e pos) (aDPut i β α) := by
  obtain ⟨t, g1, g2⟩ := he.ex
  obtain ⟨tb, b1, b2⟩ := hk.ex
  refine ⟨_, ps_asg g1 (pg_sub (pe_var hN hv hd hcd) b1 (set_N hu) ha) hs hw h1, fun B F0 M T env σ H F R0 A D l p => ?_⟩
  obtain ⟨kvs, p0, p⟩ := p
  obtain ⟨a, o, xs, e1, _⟩ := R0.dc i kvs p0
  refine g2 B F0 M T env σ H F R0 _ p _ fun vv vd H1 F1 s1 dv p1 => ⟨_, e1, b2 B F0 M T env σ H1 F1 (R0.step s1) _ p1 _ fun kv kd H2 F2 s2 dk p2 => ?_⟩
  obtain ⟨hk, hl, p2⟩ := p2
  have R2 := (R0.step s1).step s2
  obtain ⟨a', o', xs', e1', c1, c2, c3, c4, c5, c6⟩ := R2.dc i kvs p0
  rw [e1] at e1'
  cases Option.some.inj e1'
  obtain ⟨kb, rfl⟩ := key_ref hk dk
  refine ⟨a, o', xs', nk kd, kb, rfl, dok_of R2.sub c1 c5 c6, rfl, kis_of R2.sub hk dk, by rw [kv_len c6]; exact line_lt hl, fun ob' u ru hd' => ?_⟩
  exact l.nx T _ σ _ F2 (R2.mutG p0 e1 (.dct hd' (kv_put c6 hk dk ru (Rp.sub s2.ext _ dv)))) p2
/-- x = y, y a thing of one's own that is handed on -/
theorem R.off {B F0 : Hp} {M T : Tws K} {env : AE} {σ : L2.St} {H F : Hp} (j : Nat) (r : R K B F0 M T env σ H F) : R K B F0 M T (env.set j .un) σ H F := by
  have at_ : ∀ {k : Nat} {s : Sl}, (env.set j .un)[k]? = some s → s ≠ .un → j ≠ k ∧ env[k]? = some s := fun {k s} e n => by
    by_cases q : j = k
    · subst q
      have hl : j < env.length := by
        have := (List.getElem?_eq_some_iff.mp e).1
        rwa [List.length_set] at this
      rw [List.getElem?_set_self hl] at e
      exact absurd (Option.some.inj e).symm n
    · rw [List.getElem?_set_ne q] at e
      exact ⟨q, e⟩
  refine ⟨r.toGd, by rw [List.length_set]; exact r.len, fun k d e => ?_, fun k ds e => ?_, fun k kk e => ?_, fun k ns e => ?_, fun k m ds es a h1 h2 h3 h4 => ?_, fun k φ e => ?_⟩
  case refine_6 =>
    obtain ⟨h2, h3, _⟩ := r.lnE (s' := .un) (fun φ z => by cases z) (.inl fun g z => by cases z) k φ e
    exact ⟨h2, h3⟩
  · exact r.va k d (at_ e (by intro z; cases z)).2
  · exact r.og k ds (at_ e (by intro z; cases z)).2
  · exact r.ti k kk (at_ e (by intro z; cases z)).2
  · exact r.sc k ns (at_ e (by intro z; cases z)).2
  · exact r.di k m ds es a (at_ h1 (by intro z; cases z)).2 (at_ h2 (by intro z; cases z)).2 h3 h4
def aMov (i j : Nat) : ASx := fun A env => ∃ g, env[j]? = some (.og g) ∧ A.nx ((env.set j .un).set i (.og g))
theorem js_mov (i j : Nat) {px py : Pos} (nd : X.N.Nodup) (hi : X.N[i]? = some x := by rfl) (hx : Loc X.env.scope x := by first | exact Or.inl rfl | exact Or.inr rfl) (hN : X.N[j]? = some y := by rfl) (hv : Vis X.env.scope y := by first | exact Or.inl rfl | exact Or.inr (Or.inl rfl) | exact Or.inr (Or.inr rfl)) (hd : (y == ("__debug__" : Str)) = false := by decide)
    (hcd : (y == ("__classdict__" : Str)) = false := by decide) (hs : swapsWith (.Name y py) (some (.Name x px)) pos.line X.env = pure false := by rfl)
    (hf : X.fn x = true ∨ X.env.scope.names.lookup x = some .local := by first | exact .inl rfl | exact .inr rfl | assumption) : JS X (.Assign [.Name x px] (.Name y py) pos) (aMov i j) := by
  refine ⟨_, ps_set nd hi hx (pe_var hN hv hd hcd) hs hf, fun B F0 M T env σ H F R0 A D l p => ?_⟩
  obtain ⟨g, p1, p2⟩ := p
  obtain ⟨a, u, e1, e2, e3, e4, e5, e6⟩ := R0.og j g p1
  refine ⟨_, e1, l.nx T _ _ H F ((R0.off j).putG e2 e3 e4 e5 e6 (fun k g' hk hg hσ => ?_) (lnf_set (R0.lno p1 e1) (fun φ z => by cases z))) p2⟩
  by_cases z : j = k
  · subst z
    have hl : j < env.length := (List.getElem?_eq_some_iff.mp p1).1
    rw [List.getElem?_set_self hl] at hg
    cases hg
  · rw [List.getElem?_set_ne z] at hg
    exact z (R0.di j k g g' a p1 hg e1 hσ)
/-- for .. in d.items() -/
def iD (α : AEx) : AOx := fun env P => α env fun x => ∃ kvs, x = .dict kvs ∧ P (kvs.map fun p => .tuple [p.1, p.2])
theorem ji_items {elts : List Expr} {kk : Nat} {tpos apos cpos : Pos} (he : JE X e α) (hbase : attributeBase e "items" X.env (eval e X.env) = eval e X.env := by rfl) (hline : (apos.endLine == cpos.line) = true := by rfl) :
    JI X (.Tuple elts kk tpos) (.Call (.Attribute e "items" apos) [] [] cpos) (iD α) := by
  obtain ⟨t, a1, a2⟩ := he.ex
  refine ⟨_, pi_itemsN a1 hbase hline, fun B F0 M T env σ H F R0 P p Q q => a2 B F0 M T env σ H F R0 _ p _ fun v d H1 F1 s1 d1 p1 => ?_⟩
  obtain ⟨kvs, rfl, p1⟩ := p1
  cases d1 with
  | @dct a o xs _ h1 h2 h3 =>
    have R1 := R0.step s1
    obtain ⟨vs, g1, g2, g3⟩ := kv_vals h3
    refine ⟨a, o, xs, vs, rfl, dok_of R1.sub (R1.sub _ _ h1) h2 h3, g1, q _ _ H1 F1 s1 (fun T i H F b sb => ⟨fun hi => ?_, fun hi => ?_⟩) p1⟩
    · rw [List.length_map] at hi
      have hl := kv_len h3
      refine ⟨⟨b.sub _ _ (sb _ _ h1), by omega⟩, fun x H' yy => ?_⟩
      obtain ⟨y, Tt, v, y1, y2, rfl, y3, rfl⟩ := yy
      obtain ⟨pp, k1, k2, k3⟩ := g3 i y v y1 y2
      have st : Stp T H F (upd H Tt (.tup [.ref y.2.1, v])) (upd F Tt (.tup [.ref y.2.1, v])) := .al b y3
      refine ⟨_, .tuple [pp.1, pp.2], ?_, st, .tup (.inl (.inl upd_same)) (.cons (Rp.sub (sb.trans st.ext) _ k2) (.cons (Rp.sub (sb.trans st.ext) _ k3) .nil))⟩
      rw [List.getElem?_map, k1]; rfl
    · rw [List.length_map] at hi
      have hl := kv_len h3
      exact ⟨b.sub _ _ (sb _ _ h1), by omega⟩
/-- d.get(k, x), d a dict of one's own -/
def aGetO (i : Nat) (κ α : AEx) : AEx := fun env P => ∃ kvs, env[i]? = some (.dc kvs) ∧ κ env fun kd => α env fun xd => isKey kd = true ∧ P ((dfind kvs (nk kd)).getD xd)
def tyDct (x : V) (H : Hp) : Prop := ∃ a o, x = .ref a ∧ H a = some (KDo a o) ∧ o.ExactDict
theorem ty_dct : TyOk X "dict" tyDct := by
  intro pins σ H s x v I rx h
  obtain ⟨a, o, rfl, ha, he⟩ := h
  cases rx
  have ho : s.heap.get? a = some o := (I.hok a _ ha).1
  exact ⟨⟨o, ho, he.1⟩, fun b z => by cases z; exact ⟨o, ho, he.2.1⟩⟩
theorem j_getO (i : Nat) {px apos : Pos} (hu : X.A.units + 64 < cLine) (ha : JE X a α) (hb : JE X b β) (hN : X.N[i]? = some x := by rfl) (hv : Vis X.env.scope x := by first | exact Or.inl rfl | exact Or.inr (Or.inl rfl) | exact Or.inr (Or.inr rfl)) (hd : (x == ("__debug__" : Str)) = false := by decide)
    (hcd : (x == ("__classdict__" : Str)) = false := by decide) (hbase : attributeBase (.Name x px) "get" X.env (eval (.Name x px) X.env) = eval (.Name x px) X.env := by rfl)
    (hfew : ((backTo pos (starEach [a, b] X.env)).all (fun x => !x.1) && (backToKw pos (keywordEach [] X.env)).all (fun x => x.1.isSome)
      && decide ([a, b].length + ([] : List Keyword).length + (if ([] : List Keyword).isEmpty then 0 else 1) < 30)) = true := by rfl)
    (hline : (apos.endLine == pos.line) = true := by rfl) (hs : starEach [a, b] X.env = (false, eval a X.env) :: starEach [b] X.env := by rfl) (hs2 : starEach [b] X.env = (false, eval b X.env) :: starEach [] X.env := by rfl) (hplain : (backTo pos (starEach [b] X.env)).any (·.1) = false := by rfl) : JE X (.Call (.Attribute (.Name x px) "get" apos) [a, b] [] pos) (aGetO i α β) := by
  obtain ⟨ta, a1, a2⟩ := ha.ex
  obtain ⟨tb, b1, b2⟩ := hb.ex
  refine ⟨_, pe_mG ty_dct PySem.F.plainAttrs_dict PySem.F.slot_dict_get PySem.F.type_dict_get (mt_getN hu) (pe_var hN hv hd hcd) (pa_cons a1 (pa_cons b1 pa_nil hs2) hs) hbase hfew hline hs hplain, fun B F0 M T env σ H F R0 P p Q q => ?_⟩
  obtain ⟨kvs, p0, p⟩ := p
  obtain ⟨da, o, xs, e1, c1, _, _, _, c5, _⟩ := R0.dc i kvs p0
  refine ⟨_, e1, ⟨da, o, rfl, c1, c5.1⟩, a2 B F0 M T env σ H F R0 _ p _ fun kv kd H1 F1 s1 dk p1 => b2 B F0 M T env σ H1 F1 (R0.step s1) _ p1 _ fun zv zd H2 F2 s2 dz p2 => ?_⟩
  obtain ⟨hk, p2⟩ := p2
  have R2 := (R0.step s1).step s2
  obtain ⟨a', o', xs', e1', c1', c2, c3, c4, c5', c6⟩ := R2.dc i kvs p0
  rw [e1] at e1'
  cases Option.some.inj e1'
  have dk2 := Rp.sub s2.ext _ dk
  obtain ⟨kb, rfl⟩ := key_ref hk dk
  refine ⟨da, o', xs', nk kd, kb, zv, rfl, dok_of R2.sub c1' c5' c6, rfl, kis_of R2.sub hk dk2, ?_⟩
  rcases kv_find (nk kd) c6 with ⟨h1, h2⟩ | ⟨pp, d, v, h1, h2, h3, h4⟩
  · rw [h2] at p2
    exact ⟨fun pp v e => (by rw [h1] at e; cases e), fun _ => q _ _ H2 F2 (s1.trans s2) dz p2, fun pp e => (by rw [h1] at e; cases e)⟩
  · rw [h2] at p2
    refine ⟨fun pp' v' e rv => ?_, fun e => (by rw [h1] at e; cases e), fun pp' e => (by rw [h1] at e; cases e; exact ⟨v, h3⟩)⟩
    rw [h1] at e
    cases e
    have : v' = v := RelV.inj rv h3
    subst this
    exact q _ _ H2 F2 (s1.trans s2) h4 p2
end
end Ab

/-! zip(*list of tuples of one length), one name as the target -/
namespace RZ
open PySem
open PySem.Sem (wp)
abbrev ZipO (h : Heap) (z TI TO : Addr) (f0 f1 : Value) : Prop := h.get? z = some { cls := .type "zip", dict := none, data := .fields #[f0, f1, .bool false, .ref TI, .ref TO], slots := #[] }
abbrev TupO (h : Heap) (T : Addr) (vs : Array Value) : Prop := h.get? T = some { cls := .type "tuple", data := .seq vs }
def FZ (f0 : Value) : Prop := f0 = .none ∨ ∃ a t, f0 = .int a t
section
variable {prog : Program} {w : World} {A : Around} {E : Value → Shared → Prop} {s : Shared}
theorem alive_any {a : Addr} {Q : Option Obj → Shared → Prop} (h : Q (s.heap.get? a) s) : wpAny (model prog w) A (loadIfAlive a) Q E s := fun Γ p hΓ => by
  rw [loadIfAlive, PySem.Sem.wp_loadIfAlive]
  exact wpAny_pure h Γ p hΓ
theorem own_any {z TI TO : Addr} {f0 f1 : Value} {Q : Bool → Shared → Prop} (hz : ZipO s.heap z TI TO f0 f1) (hf : FZ f0) (h1 : Q true s) (h2 : ∀ h' f1', ZipO h' z TI TO f0 f1' → Heap.SameBut z s.heap h' → Q false { s with heap := h' }) :
    wpAny (model prog w) A (Builtin.SmallTypes.ownedTupleIsFree (.ref z)) Q E s := by
  unfold Builtin.SmallTypes.ownedTupleIsFree
  rcases hf with rfl | ⟨a, t, rfl⟩
  · exact wpAny_bind (wpAny_field hz rfl (x := .none) rfl (wpAny_pure h1))
  · refine wpAny_bind (wpAny_field hz rfl (x := .int a t) rfl ?_)
    show wpAny _ _ (loadIfAlive a.toNat >>= _) _ _ _
    refine wpAny_bind (alive_any ?_)
    cases e : s.heap.get? a.toNat with
    | none =>
      simp only [Option.isNone_none, if_true]
      exact wpAny_pure h1
    | some o =>
      simp only [Option.isNone_some, Bool.false_eq_true, if_false]
      refine wpAny_bind (wpAny_field hz rfl (x := f1) rfl ?_)
      by_cases q : (f1 != .bool true) = true
      · rw [if_pos q]
        refine wpAny_bind (wpAny_setField_rec hz (by simp) fun h' hz' hs' => wpAny_pure ?_)
        exact h2 h' (.bool true) hz' hs'
      · rw [if_neg q]
        exact wpAny_pure (h2 s.heap f1 hz (Heap.SameBut.refl _ _))
theorem hand_out {z TI TO : Addr} {f0 f1 : Value} {T : Addr} {Q : Unit → Shared → Prop} (hz : ZipO s.heap z TI TO f0 f1) (h : ∀ h', ZipO h' z TI TO (rawInt T) (.bool false) → Heap.SameBut z s.heap h' → Q () { s with heap := h' }) :
    wpAny (model prog w) A (Builtin.SmallTypes.ownedTupleHandOut (.ref z) (.ref T)) Q E s := by
  unfold Builtin.SmallTypes.ownedTupleHandOut
  refine wpAny_bind (wpAny_setField_rec hz (by simp) fun h7 hz7 hs7 => ?_)
  exact wpAny_setField_rec (show ZipO h7 z TI TO (rawInt T) f1 from hz7) (by simp) fun h8 hz8 hs8 => h h8 hz8 (hs7.trans hs8)
theorem upd_tup {T : Addr} {vs : Array Value} {x : Value} {k : Nat} {Q : Unit → Shared → Prop} (hl : vs.size ≤ 1000) (hT : TupO s.heap T vs)
    (h : ∀ h', TupO h' T (vs.setIfInBounds k x) → Heap.SameBut T s.heap h' → Q () { s with heap := h' }) : wpAny (model prog w) A (updateSeq T (·.setIfInBounds k x)) Q E s := by
  refine wpAny_updateSeq (hz := by rw [sizeLine_eq]; omega) (_hz' := by rw [Array.size_setIfInBounds, sizeLine_eq]; omega) hT rfl (h _ ?_ (Heap.SameBut.update ..))
  show (s.heap.update T _).get? T = _
  rw [Heap.get?_update_self _ hT rfl]
  simp [Obj.mapSeq]

structure Ap1 (z TI TO i0 l0 : Addr) : Prop where
  z_TO : z ≠ TO
  z_i0 : z ≠ i0
  TO_z : TO ≠ z
  TO_i0 : TO ≠ i0
  i0_z : i0 ≠ z
  i0_TO : i0 ≠ TO
  TI_z : TI ≠ z
  TI_TO : TI ≠ TO
  TI_i0 : TI ≠ i0
  l0_z : l0 ≠ z
  l0_TO : l0 ≠ TO
  l0_i0 : l0 ≠ i0
theorem zip1_item {z TI TO i0 l0 : Addr} {k : Nat} {xs0 : Array Value} {f0 f1 : Value} {x0 : Value} {y0 : Value} {Q : Value → Shared → Prop} (D : Ap1 z TI TO i0 l0) (hz : ZipO s.heap z TI TO f0 f1) (hf : FZ f0) (hTI : TupO s.heap TI #[.ref i0]) (hTO : TupO s.heap TO #[y0])
    (t0 : s.heap.IsTupleIter i0 l0 k) (u0 : s.heap.IsTuple l0 xs0) (e0 : xs0[k]? = some x0)
    (hQ : ∀ h' f0' f1' (y0' : Value), FZ f0' → ZipO h' z TI TO f0' f1' → TupO h' TO #[y0'] → h'.IsTupleIter i0 l0 (k + 1) → TupO h' s.heap.objs.size #[x0] → h'.objs.size = s.heap.objs.size + 1 → (∀ c o, c ≠ z → c ≠ TO → c ≠ i0 → s.heap.get? c = some o → h'.get? c = some o) → Q (.ref s.heap.objs.size) { s with heap := h' }) :
    wpAny (model prog w) A (Builtin.«zip.__next__» ⟨[.ref z], []⟩) (fun fin s' => ∃ v, fin = .done (.ret v) ∧ Q v s') E s := by
  show wpAny _ _ (field (.ref z) 2 >>= _) _ _ _
  refine wpAny_bind (wpAny_field hz rfl (x := .bool false) rfl ?_)
  show wpAny _ _ (field (.ref z) 3 >>= _) _ _ _
  refine wpAny_bind (wpAny_field hz rfl (x := .ref TI) rfl ?_)
  refine wpAny_bind (wpAny_seqItems hTI rfl ?_)
  show wpAny _ _ (Builtin.SmallTypes.ownedTupleIsFree (.ref z) >>= _) _ _ _
  refine wpAny_bind (own_any hz hf ?_ fun h₀ f1' hz₀ hs₀ => ?_)
  · simp only [if_true]
    refine wpAny_bind (wpAny_rule ?_)
    refine wpAny_bind (wpAny_field hz rfl (x := .ref TO) rfl ?_)
    refine wpAny_bind (wpAny_setField_rec hz (by simp) fun g0 hz₁ hs => ?_)
    replace hz₁ : ZipO g0 z TI TO .ellipsis f1 := hz₁
    have fr : ∀ c o, c ≠ z → s.heap.get? c = some o → g0.get? c = some o := fun c o h e => hs.extBut c o h e
    have hTO₁ := fr _ _ D.TO_z hTO
    have sz : g0.objs.size = s.heap.objs.size := hs.1
    have t0' := t0.at fun o e => fr i0 o D.i0_z e
    have u0' : g0.IsTuple l0 xs0 := u0.at fun o e => fr l0 o D.l0_z e
    refine wpAny_bind ?_
    simp only [List.zipIdx_cons, List.zipIdx_nil, List.forIn_cons, List.forIn_nil]
    refine wpAny_bind (wpAny_bind (wpAny_onRaise ?_))
    show wpAny _ _ (Builtin.SmallTypes.nextOf (.ref i0) >>= _) _ _ _
    refine wpAny_bind (nextOf_tuple_item t0' u0' e0 fun g0a t0n hsa0 => wpAny_pure ?_)
    have hTOa0 := hsa0.extBut _ _ D.TO_i0 hTO₁
    refine wpAny_bind (wpAny_seqItems hTOa0 rfl ?_)
    refine wpAny_bind (upd_tup (by simp) hTOa0 fun g1 hTO₁ hsb0 => ?_)
    refine wpAny_bind (wpAny_letGo (wpAny_pure ?_))
    have fr0 : ∀ c o, c ≠ i0 → c ≠ TO → g0.get? c = some o → g1.get? c = some o := fun c o h1 h2 e => hsb0.extBut _ _ h2 (hsa0.extBut _ _ h1 e)
    have t0' := t0n.at fun o e => hsb0.extBut i0 o D.i0_TO e
    have hz₁ := fr0 _ _ D.z_i0 D.z_TO hz₁
    have sz : g1.objs.size = s.heap.objs.size := by rw [hsb0.1, hsa0.1]; exact sz
    have u0' : g1.IsTuple l0 xs0 := u0'.at fun o e => fr0 l0 o D.l0_i0 D.l0_TO e
    refine wpAny_pure ?_
    have hTO₂ : TupO g1 TO #[x0] := hTO₁
    refine wpAny_bind (wpAny_seqItems hTO₂ rfl ?_)
    refine wpAny_bind (wpAny_newTuple (hsz := by show 1 ≤ sizeLine; decide) ?_)
    have hzlt : z < g1.objs.size := Heap.lt_size hz₁
    show wpAny _ _ (Builtin.SmallTypes.ownedTupleHandOut (.ref z) (.ref g1.objs.size) >>= _) _ _ _
    refine wpAny_bind (hand_out (Heap.get?_push_of_some _ hz₁) fun h' hz' hs' => ?_)
    have up : ∀ c o, c ≠ z → g1.get? c = some o → h'.get? c = some o := fun c o h e => hs'.extBut _ _ h (Heap.get?_push_of_some _ e)
    refine wpAny_pure ⟨_, rfl, ?_⟩
    show Q (.ref g1.objs.size) _
    rw [sz]
    refine hQ h' _ _ x0 (.inr ⟨_, _, rfl⟩) hz' (up _ _ D.TO_z hTO₂) (t0'.at fun o e => up _ o D.i0_z e) ?_ ?_ fun c o cz cTO ci0 e => ?_
    · have := hs'.extBut g1.objs.size _ (Nat.ne_of_gt hzlt) (Heap.get?_push_size _ rfl)
      rw [sz] at this
      exact this
    · rw [hs'.1, Heap.size_push, sz]
    · exact up c o cz (fr0 c o ci0 cTO (fr c o cz e))
  · simp only [Bool.false_eq_true, if_false]
    have fr : ∀ c o, c ≠ z → s.heap.get? c = some o → h₀.get? c = some o := fun c o h e => hs₀.extBut c o h e
    have hz₁ := hz₀
    have hTO₁ := fr _ _ D.TO_z hTO
    have sz : h₀.objs.size = s.heap.objs.size := hs₀.1
    have t0' := t0.at fun o e => fr i0 o D.i0_z e
    have u0' : h₀.IsTuple l0 xs0 := u0.at fun o e => fr l0 o D.l0_z e
    refine wpAny_bind ?_
    simp only [List.forIn_cons, List.forIn_nil, List.forIn_toArray, ← Array.forIn_toList]
    refine wpAny_bind (wpAny_bind (wpAny_holding ?_))
    show wpAny _ _ (Builtin.SmallTypes.nextOf (.ref i0) >>= _) _ _ _
    refine wpAny_bind (nextOf_tuple_item t0' u0' e0 fun k0 t0n hsa0 => wpAny_pure ?_)
    have fr0 : ∀ c o, c ≠ i0 → h₀.get? c = some o → k0.get? c = some o := fun c o h1 e => hsa0.extBut _ _ h1 e
    have t0' := t0n
    have hz₁ := fr0 _ _ D.z_i0 hz₁
    have hTO₁ := fr0 _ _ D.TO_i0 hTO₁
    have sz : k0.objs.size = s.heap.objs.size := by rw [hsa0.1]; exact sz
    have u0' : k0.IsTuple l0 xs0 := u0'.at fun o e => fr0 l0 o D.l0_i0 e
    refine wpAny_pure ?_
    refine wpAny_pure ?_
    refine wpAny_bind (wpAny_newTuple (hsz := by show 1 ≤ sizeLine; decide) ?_)
    refine wpAny_pure ⟨_, rfl, ?_⟩
    show Q (.ref k0.objs.size) _
    rw [sz]
    refine hQ _ _ _ y0 hf (Heap.get?_push_of_some _ hz₁) (Heap.get?_push_of_some _ hTO₁) (t0'.at fun o e => Heap.get?_push_of_some _ e) ?_ ?_ fun c o cz cTO ci0 e => Heap.get?_push_of_some _ (fr0 c o ci0 (fr c o cz e))
    · have := Heap.get?_push_size (h := k0) (o := ({ cls := .type "tuple", data := .seq #[x0] } : Obj)) rfl
      rw [sz] at this
      exact this
    · rw [Heap.size_push, sz]
theorem zip1_end {z TI TO i0 l0 : Addr} {k : Nat} {xs0 : Array Value} {f0 f1 : Value} {y0 : Value} {Q : Fin → Shared → Prop} (hh : A.handled = none) (D : Ap1 z TI TO i0 l0) (hz : ZipO s.heap z TI TO f0 f1) (hf : FZ f0) (hTI : TupO s.heap TI #[.ref i0]) (hTO : TupO s.heap TO #[y0])
    (t0 : s.heap.IsTupleIter i0 l0 k) (u0 : s.heap.IsTuple l0 xs0) (hx : xs0[k]? = none)
    (hE : ∀ h' e, (∀ c o, c ≠ z → c ≠ TO → c ≠ i0 → s.heap.get? c = some o → h'.get? c = some o) → (∃ o, h'.get? e = some o ∧ o.cls = .type "StopIteration") → E (.ref e) { s with heap := h' }) :
    wpAny (model prog w) A (Builtin.«zip.__next__» ⟨[.ref z], []⟩) Q E s := by
  show wpAny _ _ (field (.ref z) 2 >>= _) _ _ _
  refine wpAny_bind (wpAny_field hz rfl (x := .bool false) rfl ?_)
  show wpAny _ _ (field (.ref z) 3 >>= _) _ _ _
  refine wpAny_bind (wpAny_field hz rfl (x := .ref TI) rfl ?_)
  refine wpAny_bind (wpAny_seqItems hTI rfl ?_)
  show wpAny _ _ (Builtin.SmallTypes.ownedTupleIsFree (.ref z) >>= _) _ _ _
  refine wpAny_bind (own_any hz hf ?_ fun h₀ f1' hz₀ hs₀ => ?_)
  · simp only [if_true]
    refine wpAny_bind (wpAny_rule ?_)
    refine wpAny_bind (wpAny_field hz rfl (x := .ref TO) rfl ?_)
    refine wpAny_bind (wpAny_setField_rec hz (by simp) fun g0 hz₁ hs => ?_)
    replace hz₁ : ZipO g0 z TI TO .ellipsis f1 := hz₁
    have u0' : g0.IsTuple l0 xs0 := u0.at fun o e => hs.extBut l0 o D.l0_z e
    refine wpAny_bind ?_
    simp only [List.zipIdx_cons, List.zipIdx_nil, List.forIn_cons, List.forIn_nil]
    refine wpAny_bind (wpAny_bind (wpAny_onRaise ?_))
    show wpAny _ _ (Builtin.SmallTypes.nextOf (.ref i0) >>= _) _ _ _
    refine wpAny_bind (nextOf_tuple_end hh (t0.at fun o e => hs.extBut i0 o D.i0_z e) u0' hx fun h₂ e hs₂ he => ?_)
    obtain ⟨oe, hoe, hce⟩ := he
    have hz₂ : ZipO h₂ z TI TO .ellipsis f1 := hs₂ _ _ D.z_i0 hz₁
    have hez : e ≠ z := fun x => by subst x; rw [hz₂] at hoe; cases hoe; simp at hce
    exact wpAny_setField_rec hz₂ (by simp) fun h₃ _ hs₃ => hE h₃ e (fun c o cz cTO ci0 x => hs₃.extBut _ _ cz (hs₂ _ _ ci0 (hs.extBut _ _ cz x))) ⟨oe, hs₃.extBut _ _ hez hoe, hce⟩
  · simp only [Bool.false_eq_true, if_false]
    have u0' : h₀.IsTuple l0 xs0 := u0.at fun o e => hs₀.extBut l0 o D.l0_z e
    refine wpAny_bind ?_
    simp only [List.forIn_cons, List.forIn_nil, List.forIn_toArray, ← Array.forIn_toList]
    refine wpAny_bind (wpAny_bind (wpAny_holding ?_))
    show wpAny _ _ (Builtin.SmallTypes.nextOf (.ref i0) >>= _) _ _ _
    exact wpAny_bind (nextOf_tuple_end hh (t0.at fun o e => hs₀.extBut i0 o D.i0_z e) u0' hx fun h₂ e hs₂ he => hE h₂ e (fun c o cz cTO ci0 x => hs₂ _ _ ci0 (hs₀.extBut _ _ cz x)) he)
theorem nx1_item {z TI TO i0 l0 : Addr} {k : Nat} {xs0 : Array Value} {f0 f1 : Value} {x0 : Value} {y0 : Value} {Q : Option Value → Shared → Prop} (D : Ap1 z TI TO i0 l0) (hz : ZipO s.heap z TI TO f0 f1) (hf : FZ f0) (hTI : TupO s.heap TI #[.ref i0]) (hTO : TupO s.heap TO #[y0])
    (t0 : s.heap.IsTupleIter i0 l0 k) (u0 : s.heap.IsTuple l0 xs0) (e0 : xs0[k]? = some x0)
    (hQ : ∀ h' f0' f1' (y0' : Value), FZ f0' → ZipO h' z TI TO f0' f1' → TupO h' TO #[y0'] → h'.IsTupleIter i0 l0 (k + 1) → TupO h' s.heap.objs.size #[x0] → h'.objs.size = s.heap.objs.size + 1 → (∀ c o, c ≠ z → c ≠ TO → c ≠ i0 → s.heap.get? c = some o → h'.get? c = some o) → Q (some (.ref s.heap.objs.size)) { s with heap := h' }) : wpAny (model prog w) A (pyNext (.ref z)) Q E s := by
  have hT : s.TypeIs (.ref z) "zip" := ⟨_, hz, rfl⟩
  unfold pyNext
  exact wpAny_bind (wpAny_attempt (wpAny_callSpecial?_slot (name := Str.ofString "__next__") hT F.slot_zip_next
    (wpAny_call_entry F.slot_zip_next hT F.entry_zip_next
      (zip1_item D hz hf hTI hTO t0 u0 e0 fun h' a0 a1 a2 a3 a4 a5 a6 a7 a8 a9 => wpAny_pure (hQ h' a0 a1 a2 a3 a4 a5 a6 a7 a8 a9)) (F.args_zip_next_1 _))))
theorem nx1_end {z TI TO i0 l0 : Addr} {k : Nat} {xs0 : Array Value} {f0 f1 : Value} {y0 : Value} {Q : Option Value → Shared → Prop} (hh : A.handled = none) (D : Ap1 z TI TO i0 l0) (hz : ZipO s.heap z TI TO f0 f1) (hf : FZ f0) (hTI : TupO s.heap TI #[.ref i0]) (hTO : TupO s.heap TO #[y0])
    (t0 : s.heap.IsTupleIter i0 l0 k) (u0 : s.heap.IsTuple l0 xs0) (hx : xs0[k]? = none)
    (hQ : ∀ h', (∀ c o, c ≠ z → c ≠ TO → c ≠ i0 → s.heap.get? c = some o → h'.get? c = some o) → Q none { s with heap := h' }) : wpAny (model prog w) A (pyNext (.ref z)) Q E s := by
  have hT : s.TypeIs (.ref z) "zip" := ⟨_, hz, rfl⟩
  unfold pyNext
  refine wpAny_bind (wpAny_attempt (wpAny_callSpecial?_slot (name := Str.ofString "__next__") hT F.slot_zip_next
    (wpAny_call_entry F.slot_zip_next hT F.entry_zip_next (zip1_end hh D hz hf hTI hTO t0 u0 hx fun h' e hk he => ?_) (F.args_zip_next_1 _))))
  obtain ⟨o, ho, hc⟩ := he
  refine wpAny_bind (wpAny_isInstance (T := "StopIteration") (b := true) ⟨o, ho, hc⟩ isSubtype_stop ?_)
  exact wpAny_pure (hQ _ hk)
theorem typeCall_1 (a : Value) : checkTypeCall "zip" ⟨[a], []⟩ = pure () := by kernel_rfl
theorem newCall_1 (a : Value) : checkBuiltinCall "zip.__new__" ⟨[.type "zip", a], []⟩ = pure () := by kernel_rfl
theorem argsO_1 (o a : Value) : argsOk "object.__init__" ⟨[o, a], []⟩ := by
  unfold argsOk; rw [signature?_of (id := "object.__init__") (n := ['_', '_', 't', 'i', 'n', 'i', '_', '_']) (o := ['t', 'c', 'e', 'j', 'b', 'o']) (by kernel_rfl) PySem.F.owner_object]; kernel_rfl
abbrev Z1_0 (h : Heap) : Heap := h
abbrev Z1_1 (h : Heap) (l0 : Addr) : Heap := (Z1_0 h).push { cls := .type "tuple_iterator", data := .fields #[.ref l0, .int 0 0] }
abbrev Z1_a (h : Heap) (l0 : Addr) : Heap := (Z1_1 h l0).push { cls := .type "tuple", data := .seq #[.ref (Z1_0 h).objs.size] }
abbrev Z1_b (h : Heap) (l0 : Addr) : Heap := (Z1_a h l0).push { cls := .type "tuple", data := .seq #[.none] }
abbrev Z1_c (h : Heap) (l0 : Addr) : Heap := (Z1_b h l0).push { cls := .type "zip", data := .fields #[.none, .bool false, .bool false, .ref (Z1_1 h l0).objs.size, .ref (Z1_a h l0).objs.size] }
theorem meets_new1 (l0 : Addr) (xs0 : Array Value) :
    Meets (Builtin.«zip.__new__» ⟨[.type "zip", .ref l0], []⟩) (fun _ R s => s.heap.IsTuple l0 xs0 ∧
      R (.ok (.ret (.ref (Z1_b s.heap l0).objs.size))) { s with heap := Z1_c s.heap l0 }) :=
  .of_wp fun prog w A R s h => by
    obtain ⟨hp, g, d, tk, os⟩ := s; obtain ⟨hl0, h⟩ := h
    have hsub := sub_zip
    have hL0 : Heap.IsTuple (Shared.heap ⟨hp, g, d, tk, os⟩) l0 xs0 := hl0
    wp_walk using wpAny_pyIter_tuple hL0
    exact ⟨_, rfl, h⟩
theorem call_zip1 {l0 : Addr} {xs0 : Array Value} {Q : Value → Shared → Prop} (u0 : s.heap.IsTuple l0 xs0)
    (h : ∀ h', ZipO h' (s.heap.objs.size + 3) (s.heap.objs.size + 1) (s.heap.objs.size + 2) .none (.bool false) → TupO h' (s.heap.objs.size + 1) #[.ref (s.heap.objs.size + 0)] →
      TupO h' (s.heap.objs.size + 2) #[.none] → h'.IsTupleIter (s.heap.objs.size + 0) l0 0 → h'.objs.size = s.heap.objs.size + 4 →
      (∀ c o, s.heap.get? c = some o → h'.get? c = some o) → Q (.ref (s.heap.objs.size + 3)) { s with heap := h' }) :
    wpAny (model prog w) A (call (.type "zip") [.ref l0]) Q E s := by
  refine callType_new PySem.F.called_zip (by decide) (typeCall_1 _ ) (newCall_1 _ ) (fun obj => argsO_1 obj _ ) PySem.F.entry_zip_new
    (meets_new1 l0 xs0) ⟨u0, ?_⟩
  have z0 : s.heap.objs.size = s.heap.objs.size + 0 := rfl
  have z1 : (Z1_1 s.heap l0).objs.size = s.heap.objs.size + 1 := by rw [Heap.size_push]
  have za : (Z1_a s.heap l0).objs.size = s.heap.objs.size + 2 := by rw [Heap.size_push, z1]
  have zb : (Z1_b s.heap l0).objs.size = s.heap.objs.size + 3 := by rw [Heap.size_push, za]
  have zc : (Z1_c s.heap l0).objs.size = s.heap.objs.size + 4 := by rw [Heap.size_push, zb]
  have gz : (Z1_c s.heap l0).get? (Z1_b s.heap l0).objs.size = some _ := Heap.get?_push_size _ rfl
  have gb : (Z1_c s.heap l0).get? (Z1_a s.heap l0).objs.size = some _ := Heap.get?_push_of_some _ (Heap.get?_push_size _ rfl)
  have ga : (Z1_c s.heap l0).get? (Z1_1 s.heap l0).objs.size = some _ := Heap.get?_push_of_some _ (Heap.get?_push_of_some _ (Heap.get?_push_size _ rfl))
  have g0 : (Z1_c s.heap l0).get? (Z1_0 s.heap).objs.size = some _ := (Heap.get?_push_of_some _ (Heap.get?_push_of_some _ (Heap.get?_push_of_some _ (Heap.get?_push_size _ rfl))))
  show _ ∧ _
  rw [z1, za, zb] at gz
  rw [z1] at ga
  rw [za] at gb
  rw [zb]
  exact ⟨⟨_, gz, rfl⟩, h _ gz ga gb ⟨_, g0, rfl, rfl⟩ zc fun c o x => (Heap.get?_push_of_some _ (Heap.get?_push_of_some _ (Heap.get?_push_of_some _ (Heap.get?_push_of_some _ x))))⟩

structure Ap2 (z TI TO i0 i1 l0 l1 : Addr) : Prop where
  z_TO : z ≠ TO
  z_i0 : z ≠ i0
  z_i1 : z ≠ i1
  TO_z : TO ≠ z
  TO_i0 : TO ≠ i0
  TO_i1 : TO ≠ i1
  i0_z : i0 ≠ z
  i0_TO : i0 ≠ TO
  i0_i1 : i0 ≠ i1
  i1_z : i1 ≠ z
  i1_TO : i1 ≠ TO
  i1_i0 : i1 ≠ i0
  TI_z : TI ≠ z
  TI_TO : TI ≠ TO
  TI_i0 : TI ≠ i0
  TI_i1 : TI ≠ i1
  l0_z : l0 ≠ z
  l0_TO : l0 ≠ TO
  l0_i0 : l0 ≠ i0
  l0_i1 : l0 ≠ i1
  l1_z : l1 ≠ z
  l1_TO : l1 ≠ TO
  l1_i0 : l1 ≠ i0
  l1_i1 : l1 ≠ i1
theorem zip2_item {z TI TO i0 i1 l0 l1 : Addr} {k : Nat} {xs0 xs1 : Array Value} {f0 f1 : Value} {x0 x1 : Value} {y0 y1 : Value} {Q : Value → Shared → Prop} (D : Ap2 z TI TO i0 i1 l0 l1) (hz : ZipO s.heap z TI TO f0 f1) (hf : FZ f0) (hTI : TupO s.heap TI #[.ref i0, .ref i1]) (hTO : TupO s.heap TO #[y0, y1])
    (t0 : s.heap.IsTupleIter i0 l0 k) (t1 : s.heap.IsTupleIter i1 l1 k) (u0 : s.heap.IsTuple l0 xs0) (u1 : s.heap.IsTuple l1 xs1) (e0 : xs0[k]? = some x0) (e1 : xs1[k]? = some x1)
    (hQ : ∀ h' f0' f1' (y0' : Value) (y1' : Value), FZ f0' → ZipO h' z TI TO f0' f1' → TupO h' TO #[y0', y1'] → h'.IsTupleIter i0 l0 (k + 1) → h'.IsTupleIter i1 l1 (k + 1) → TupO h' s.heap.objs.size #[x0, x1] → h'.objs.size = s.heap.objs.size + 1 → (∀ c o, c ≠ z → c ≠ TO → c ≠ i0 → c ≠ i1 → s.heap.get? c = some o → h'.get? c = some o) → Q (.ref s.heap.objs.size) { s with heap := h' }) :
    wpAny (model prog w) A (Builtin.«zip.__next__» ⟨[.ref z], []⟩) (fun fin s' => ∃ v, fin = .done (.ret v) ∧ Q v s') E s := by
  show wpAny _ _ (field (.ref z) 2 >>= _) _ _ _
  refine wpAny_bind (wpAny_field hz rfl (x := .bool false) rfl ?_)
  show wpAny _ _ (field (.ref z) 3 >>= _) _ _ _
  refine wpAny_bind (wpAny_field hz rfl (x := .ref TI) rfl ?_)
  refine wpAny_bind (wpAny_seqItems hTI rfl ?_)
  show wpAny _ _ (Builtin.SmallTypes.ownedTupleIsFree (.ref z) >>= _) _ _ _
  refine wpAny_bind (own_any hz hf ?_ fun h₀ f1' hz₀ hs₀ => ?_)
  · simp only [if_true]
    refine wpAny_bind (wpAny_rule ?_)
    refine wpAny_bind (wpAny_field hz rfl (x := .ref TO) rfl ?_)
    refine wpAny_bind (wpAny_setField_rec hz (by simp) fun g0 hz₁ hs => ?_)
    replace hz₁ : ZipO g0 z TI TO .ellipsis f1 := hz₁
    have fr : ∀ c o, c ≠ z → s.heap.get? c = some o → g0.get? c = some o := fun c o h e => hs.extBut c o h e
    have hTO₁ := fr _ _ D.TO_z hTO
    have sz : g0.objs.size = s.heap.objs.size := hs.1
    have t0' := t0.at fun o e => fr i0 o D.i0_z e
    have u0' : g0.IsTuple l0 xs0 := u0.at fun o e => fr l0 o D.l0_z e
    have t1' := t1.at fun o e => fr i1 o D.i1_z e
    have u1' : g0.IsTuple l1 xs1 := u1.at fun o e => fr l1 o D.l1_z e
    refine wpAny_bind ?_
    simp only [List.zipIdx_cons, List.zipIdx_nil, List.forIn_cons, List.forIn_nil]
    refine wpAny_bind (wpAny_bind (wpAny_onRaise ?_))
    show wpAny _ _ (Builtin.SmallTypes.nextOf (.ref i0) >>= _) _ _ _
    refine wpAny_bind (nextOf_tuple_item t0' u0' e0 fun g0a t0n hsa0 => wpAny_pure ?_)
    have hTOa0 := hsa0.extBut _ _ D.TO_i0 hTO₁
    refine wpAny_bind (wpAny_seqItems hTOa0 rfl ?_)
    refine wpAny_bind (upd_tup (by simp) hTOa0 fun g1 hTO₁ hsb0 => ?_)
    refine wpAny_bind (wpAny_letGo (wpAny_pure ?_))
    have fr0 : ∀ c o, c ≠ i0 → c ≠ TO → g0.get? c = some o → g1.get? c = some o := fun c o h1 h2 e => hsb0.extBut _ _ h2 (hsa0.extBut _ _ h1 e)
    have t0' := t0n.at fun o e => hsb0.extBut i0 o D.i0_TO e
    have hz₁ := fr0 _ _ D.z_i0 D.z_TO hz₁
    have sz : g1.objs.size = s.heap.objs.size := by rw [hsb0.1, hsa0.1]; exact sz
    have u0' : g1.IsTuple l0 xs0 := u0'.at fun o e => fr0 l0 o D.l0_i0 D.l0_TO e
    have t1' := t1'.at fun o e => fr0 i1 o D.i1_i0 D.i1_TO e
    have u1' : g1.IsTuple l1 xs1 := u1'.at fun o e => fr0 l1 o D.l1_i0 D.l1_TO e
    refine wpAny_bind (wpAny_bind (wpAny_onRaise ?_))
    show wpAny _ _ (Builtin.SmallTypes.nextOf (.ref i1) >>= _) _ _ _
    refine wpAny_bind (nextOf_tuple_item t1' u1' e1 fun g1a t1n hsa1 => wpAny_pure ?_)
    have hTOa1 := hsa1.extBut _ _ D.TO_i1 hTO₁
    refine wpAny_bind (wpAny_seqItems hTOa1 rfl ?_)
    refine wpAny_bind (upd_tup (by simp) hTOa1 fun g2 hTO₁ hsb1 => ?_)
    refine wpAny_bind (wpAny_letGo (wpAny_pure ?_))
    have fr1 : ∀ c o, c ≠ i1 → c ≠ TO → g1.get? c = some o → g2.get? c = some o := fun c o h1 h2 e => hsb1.extBut _ _ h2 (hsa1.extBut _ _ h1 e)
    have t1' := t1n.at fun o e => hsb1.extBut i1 o D.i1_TO e
    have hz₁ := fr1 _ _ D.z_i1 D.z_TO hz₁
    have sz : g2.objs.size = s.heap.objs.size := by rw [hsb1.1, hsa1.1]; exact sz
    have t0' := t0'.at fun o e => fr1 i0 o D.i0_i1 D.i0_TO e
    have u0' : g2.IsTuple l0 xs0 := u0'.at fun o e => fr1 l0 o D.l0_i1 D.l0_TO e
    have u1' : g2.IsTuple l1 xs1 := u1'.at fun o e => fr1 l1 o D.l1_i1 D.l1_TO e
    refine wpAny_pure ?_
    have hTO₂ : TupO g2 TO #[x0, x1] := hTO₁
    refine wpAny_bind (wpAny_seqItems hTO₂ rfl ?_)
    refine wpAny_bind (wpAny_newTuple (hsz := by show 2 ≤ sizeLine; decide) ?_)
    have hzlt : z < g2.objs.size := Heap.lt_size hz₁
    show wpAny _ _ (Builtin.SmallTypes.ownedTupleHandOut (.ref z) (.ref g2.objs.size) >>= _) _ _ _
    refine wpAny_bind (hand_out (Heap.get?_push_of_some _ hz₁) fun h' hz' hs' => ?_)
    have up : ∀ c o, c ≠ z → g2.get? c = some o → h'.get? c = some o := fun c o h e => hs'.extBut _ _ h (Heap.get?_push_of_some _ e)
    refine wpAny_pure ⟨_, rfl, ?_⟩
    show Q (.ref g2.objs.size) _
    rw [sz]
    refine hQ h' _ _ x0 x1 (.inr ⟨_, _, rfl⟩) hz' (up _ _ D.TO_z hTO₂) (t0'.at fun o e => up _ o D.i0_z e) (t1'.at fun o e => up _ o D.i1_z e) ?_ ?_ fun c o cz cTO ci0 ci1 e => ?_
    · have := hs'.extBut g2.objs.size _ (Nat.ne_of_gt hzlt) (Heap.get?_push_size _ rfl)
      rw [sz] at this
      exact this
    · rw [hs'.1, Heap.size_push, sz]
    · exact up c o cz (fr1 c o ci1 cTO (fr0 c o ci0 cTO (fr c o cz e)))
  · simp only [Bool.false_eq_true, if_false]
    have fr : ∀ c o, c ≠ z → s.heap.get? c = some o → h₀.get? c = some o := fun c o h e => hs₀.extBut c o h e
    have hz₁ := hz₀
    have hTO₁ := fr _ _ D.TO_z hTO
    have sz : h₀.objs.size = s.heap.objs.size := hs₀.1
    have t0' := t0.at fun o e => fr i0 o D.i0_z e
    have u0' : h₀.IsTuple l0 xs0 := u0.at fun o e => fr l0 o D.l0_z e
    have t1' := t1.at fun o e => fr i1 o D.i1_z e
    have u1' : h₀.IsTuple l1 xs1 := u1.at fun o e => fr l1 o D.l1_z e
    refine wpAny_bind ?_
    simp only [List.forIn_cons, List.forIn_nil, List.forIn_toArray, ← Array.forIn_toList]
    refine wpAny_bind (wpAny_bind (wpAny_holding ?_))
    show wpAny _ _ (Builtin.SmallTypes.nextOf (.ref i0) >>= _) _ _ _
    refine wpAny_bind (nextOf_tuple_item t0' u0' e0 fun k0 t0n hsa0 => wpAny_pure ?_)
    have fr0 : ∀ c o, c ≠ i0 → h₀.get? c = some o → k0.get? c = some o := fun c o h1 e => hsa0.extBut _ _ h1 e
    have t0' := t0n
    have hz₁ := fr0 _ _ D.z_i0 hz₁
    have hTO₁ := fr0 _ _ D.TO_i0 hTO₁
    have sz : k0.objs.size = s.heap.objs.size := by rw [hsa0.1]; exact sz
    have u0' : k0.IsTuple l0 xs0 := u0'.at fun o e => fr0 l0 o D.l0_i0 e
    have t1' := t1'.at fun o e => fr0 i1 o D.i1_i0 e
    have u1' : k0.IsTuple l1 xs1 := u1'.at fun o e => fr0 l1 o D.l1_i0 e
    refine wpAny_pure ?_
    refine wpAny_bind (wpAny_bind (wpAny_holding ?_))
    show wpAny _ _ (Builtin.SmallTypes.nextOf (.ref i1) >>= _) _ _ _
    refine wpAny_bind (nextOf_tuple_item t1' u1' e1 fun k1 t1n hsa1 => wpAny_pure ?_)
    have fr1 : ∀ c o, c ≠ i1 → k0.get? c = some o → k1.get? c = some o := fun c o h1 e => hsa1.extBut _ _ h1 e
    have t1' := t1n
    have hz₁ := fr1 _ _ D.z_i1 hz₁
    have hTO₁ := fr1 _ _ D.TO_i1 hTO₁
    have sz : k1.objs.size = s.heap.objs.size := by rw [hsa1.1]; exact sz
    have t0' := t0'.at fun o e => fr1 i0 o D.i0_i1 e
    have u0' : k1.IsTuple l0 xs0 := u0'.at fun o e => fr1 l0 o D.l0_i1 e
    have u1' : k1.IsTuple l1 xs1 := u1'.at fun o e => fr1 l1 o D.l1_i1 e
    refine wpAny_pure ?_
    refine wpAny_pure ?_
    refine wpAny_bind (wpAny_newTuple (hsz := by show 2 ≤ sizeLine; decide) ?_)
    refine wpAny_pure ⟨_, rfl, ?_⟩
    show Q (.ref k1.objs.size) _
    rw [sz]
    refine hQ _ _ _ y0 y1 hf (Heap.get?_push_of_some _ hz₁) (Heap.get?_push_of_some _ hTO₁) (t0'.at fun o e => Heap.get?_push_of_some _ e) (t1'.at fun o e => Heap.get?_push_of_some _ e) ?_ ?_ fun c o cz cTO ci0 ci1 e => Heap.get?_push_of_some _ (fr1 c o ci1 (fr0 c o ci0 (fr c o cz e)))
    · have := Heap.get?_push_size (h := k1) (o := ({ cls := .type "tuple", data := .seq #[x0, x1] } : Obj)) rfl
      rw [sz] at this
      exact this
    · rw [Heap.size_push, sz]
theorem zip2_end {z TI TO i0 i1 l0 l1 : Addr} {k : Nat} {xs0 xs1 : Array Value} {f0 f1 : Value} {y0 y1 : Value} {Q : Fin → Shared → Prop} (hh : A.handled = none) (D : Ap2 z TI TO i0 i1 l0 l1) (hz : ZipO s.heap z TI TO f0 f1) (hf : FZ f0) (hTI : TupO s.heap TI #[.ref i0, .ref i1]) (hTO : TupO s.heap TO #[y0, y1])
    (t0 : s.heap.IsTupleIter i0 l0 k) (t1 : s.heap.IsTupleIter i1 l1 k) (u0 : s.heap.IsTuple l0 xs0) (u1 : s.heap.IsTuple l1 xs1) (hx : xs0[k]? = none)
    (hE : ∀ h' e, (∀ c o, c ≠ z → c ≠ TO → c ≠ i0 → c ≠ i1 → s.heap.get? c = some o → h'.get? c = some o) → (∃ o, h'.get? e = some o ∧ o.cls = .type "StopIteration") → E (.ref e) { s with heap := h' }) :
    wpAny (model prog w) A (Builtin.«zip.__next__» ⟨[.ref z], []⟩) Q E s := by
  show wpAny _ _ (field (.ref z) 2 >>= _) _ _ _
  refine wpAny_bind (wpAny_field hz rfl (x := .bool false) rfl ?_)
  show wpAny _ _ (field (.ref z) 3 >>= _) _ _ _
  refine wpAny_bind (wpAny_field hz rfl (x := .ref TI) rfl ?_)
  refine wpAny_bind (wpAny_seqItems hTI rfl ?_)
  show wpAny _ _ (Builtin.SmallTypes.ownedTupleIsFree (.ref z) >>= _) _ _ _
  refine wpAny_bind (own_any hz hf ?_ fun h₀ f1' hz₀ hs₀ => ?_)
  · simp only [if_true]
    refine wpAny_bind (wpAny_rule ?_)
    refine wpAny_bind (wpAny_field hz rfl (x := .ref TO) rfl ?_)
    refine wpAny_bind (wpAny_setField_rec hz (by simp) fun g0 hz₁ hs => ?_)
    replace hz₁ : ZipO g0 z TI TO .ellipsis f1 := hz₁
    have u0' : g0.IsTuple l0 xs0 := u0.at fun o e => hs.extBut l0 o D.l0_z e
    refine wpAny_bind ?_
    simp only [List.zipIdx_cons, List.zipIdx_nil, List.forIn_cons, List.forIn_nil]
    refine wpAny_bind (wpAny_bind (wpAny_onRaise ?_))
    show wpAny _ _ (Builtin.SmallTypes.nextOf (.ref i0) >>= _) _ _ _
    refine wpAny_bind (nextOf_tuple_end hh (t0.at fun o e => hs.extBut i0 o D.i0_z e) u0' hx fun h₂ e hs₂ he => ?_)
    obtain ⟨oe, hoe, hce⟩ := he
    have hz₂ : ZipO h₂ z TI TO .ellipsis f1 := hs₂ _ _ D.z_i0 hz₁
    have hez : e ≠ z := fun x => by subst x; rw [hz₂] at hoe; cases hoe; simp at hce
    exact wpAny_setField_rec hz₂ (by simp) fun h₃ _ hs₃ => hE h₃ e (fun c o cz cTO ci0 ci1 x => hs₃.extBut _ _ cz (hs₂ _ _ ci0 (hs.extBut _ _ cz x))) ⟨oe, hs₃.extBut _ _ hez hoe, hce⟩
  · simp only [Bool.false_eq_true, if_false]
    have u0' : h₀.IsTuple l0 xs0 := u0.at fun o e => hs₀.extBut l0 o D.l0_z e
    refine wpAny_bind ?_
    simp only [List.forIn_cons, List.forIn_nil, List.forIn_toArray, ← Array.forIn_toList]
    refine wpAny_bind (wpAny_bind (wpAny_holding ?_))
    show wpAny _ _ (Builtin.SmallTypes.nextOf (.ref i0) >>= _) _ _ _
    exact wpAny_bind (nextOf_tuple_end hh (t0.at fun o e => hs₀.extBut i0 o D.i0_z e) u0' hx fun h₂ e hs₂ he => hE h₂ e (fun c o cz cTO ci0 ci1 x => hs₂ _ _ ci0 (hs₀.extBut _ _ cz x)) he)
theorem nx2_item {z TI TO i0 i1 l0 l1 : Addr} {k : Nat} {xs0 xs1 : Array Value} {f0 f1 : Value} {x0 x1 : Value} {y0 y1 : Value} {Q : Option Value → Shared → Prop} (D : Ap2 z TI TO i0 i1 l0 l1) (hz : ZipO s.heap z TI TO f0 f1) (hf : FZ f0) (hTI : TupO s.heap TI #[.ref i0, .ref i1]) (hTO : TupO s.heap TO #[y0, y1])
    (t0 : s.heap.IsTupleIter i0 l0 k) (t1 : s.heap.IsTupleIter i1 l1 k) (u0 : s.heap.IsTuple l0 xs0) (u1 : s.heap.IsTuple l1 xs1) (e0 : xs0[k]? = some x0) (e1 : xs1[k]? = some x1)
    (hQ : ∀ h' f0' f1' (y0' : Value) (y1' : Value), FZ f0' → ZipO h' z TI TO f0' f1' → TupO h' TO #[y0', y1'] → h'.IsTupleIter i0 l0 (k + 1) → h'.IsTupleIter i1 l1 (k + 1) → TupO h' s.heap.objs.size #[x0, x1] → h'.objs.size = s.heap.objs.size + 1 → (∀ c o, c ≠ z → c ≠ TO → c ≠ i0 → c ≠ i1 → s.heap.get? c = some o → h'.get? c = some o) → Q (some (.ref s.heap.objs.size)) { s with heap := h' }) : wpAny (model prog w) A (pyNext (.ref z)) Q E s := by
  have hT : s.TypeIs (.ref z) "zip" := ⟨_, hz, rfl⟩
  unfold pyNext
  exact wpAny_bind (wpAny_attempt (wpAny_callSpecial?_slot (name := Str.ofString "__next__") hT F.slot_zip_next
    (wpAny_call_entry F.slot_zip_next hT F.entry_zip_next
      (zip2_item D hz hf hTI hTO t0 t1 u0 u1 e0 e1 fun h' a0 a1 a2 a3 a4 a5 a6 a7 a8 a9 a10 a11 => wpAny_pure (hQ h' a0 a1 a2 a3 a4 a5 a6 a7 a8 a9 a10 a11)) (F.args_zip_next_1 _))))
theorem nx2_end {z TI TO i0 i1 l0 l1 : Addr} {k : Nat} {xs0 xs1 : Array Value} {f0 f1 : Value} {y0 y1 : Value} {Q : Option Value → Shared → Prop} (hh : A.handled = none) (D : Ap2 z TI TO i0 i1 l0 l1) (hz : ZipO s.heap z TI TO f0 f1) (hf : FZ f0) (hTI : TupO s.heap TI #[.ref i0, .ref i1]) (hTO : TupO s.heap TO #[y0, y1])
    (t0 : s.heap.IsTupleIter i0 l0 k) (t1 : s.heap.IsTupleIter i1 l1 k) (u0 : s.heap.IsTuple l0 xs0) (u1 : s.heap.IsTuple l1 xs1) (hx : xs0[k]? = none)
    (hQ : ∀ h', (∀ c o, c ≠ z → c ≠ TO → c ≠ i0 → c ≠ i1 → s.heap.get? c = some o → h'.get? c = some o) → Q none { s with heap := h' }) : wpAny (model prog w) A (pyNext (.ref z)) Q E s := by
  have hT : s.TypeIs (.ref z) "zip" := ⟨_, hz, rfl⟩
  unfold pyNext
  refine wpAny_bind (wpAny_attempt (wpAny_callSpecial?_slot (name := Str.ofString "__next__") hT F.slot_zip_next
    (wpAny_call_entry F.slot_zip_next hT F.entry_zip_next (zip2_end hh D hz hf hTI hTO t0 t1 u0 u1 hx fun h' e hk he => ?_) (F.args_zip_next_1 _))))
  obtain ⟨o, ho, hc⟩ := he
  refine wpAny_bind (wpAny_isInstance (T := "StopIteration") (b := true) ⟨o, ho, hc⟩ isSubtype_stop ?_)
  exact wpAny_pure (hQ _ hk)
theorem typeCall_2 (a b : Value) : checkTypeCall "zip" ⟨[a, b], []⟩ = pure () := by kernel_rfl
theorem newCall_2 (a b : Value) : checkBuiltinCall "zip.__new__" ⟨[.type "zip", a, b], []⟩ = pure () := by kernel_rfl
theorem argsO_2 (o a b : Value) : argsOk "object.__init__" ⟨[o, a, b], []⟩ := by
  unfold argsOk; rw [signature?_of (id := "object.__init__") (n := ['_', '_', 't', 'i', 'n', 'i', '_', '_']) (o := ['t', 'c', 'e', 'j', 'b', 'o']) (by kernel_rfl) PySem.F.owner_object]; kernel_rfl
abbrev Z2_0 (h : Heap) : Heap := h
abbrev Z2_1 (h : Heap) (l0 l1 : Addr) : Heap := (Z2_0 h).push { cls := .type "tuple_iterator", data := .fields #[.ref l0, .int 0 0] }
abbrev Z2_2 (h : Heap) (l0 l1 : Addr) : Heap := (Z2_1 h l0 l1).push { cls := .type "tuple_iterator", data := .fields #[.ref l1, .int 0 0] }
abbrev Z2_a (h : Heap) (l0 l1 : Addr) : Heap := (Z2_2 h l0 l1).push { cls := .type "tuple", data := .seq #[.ref (Z2_0 h).objs.size, .ref (Z2_1 h l0 l1).objs.size] }
abbrev Z2_b (h : Heap) (l0 l1 : Addr) : Heap := (Z2_a h l0 l1).push { cls := .type "tuple", data := .seq #[.none, .none] }
abbrev Z2_c (h : Heap) (l0 l1 : Addr) : Heap := (Z2_b h l0 l1).push { cls := .type "zip", data := .fields #[.none, .bool false, .bool false, .ref (Z2_2 h l0 l1).objs.size, .ref (Z2_a h l0 l1).objs.size] }
theorem meets_new2 (l0 l1 : Addr) (xs0 xs1 : Array Value) :
    Meets (Builtin.«zip.__new__» ⟨[.type "zip", .ref l0, .ref l1], []⟩) (fun _ R s => s.heap.IsTuple l0 xs0 ∧ s.heap.IsTuple l1 xs1 ∧
      R (.ok (.ret (.ref (Z2_b s.heap l0 l1).objs.size))) { s with heap := Z2_c s.heap l0 l1 }) :=
  .of_wp fun prog w A R s h => by
    obtain ⟨hp, g, d, tk, os⟩ := s; obtain ⟨hl0, hl1, h⟩ := h
    have hsub := sub_zip
    have hL0 : Heap.IsTuple (Shared.heap ⟨hp, g, d, tk, os⟩) l0 xs0 := hl0
    have hL1 : Heap.IsTuple (Shared.heap ⟨(hp.push { cls := .type "tuple_iterator", data := .fields #[.ref l0, .int 0 0] }), g, d, tk, os⟩) l1 xs1 := (Heap.IsTuple.push hl1 _)
    wp_walk using wpAny_pyIter_tuple hL0, wpAny_pyIter_tuple hL1
    exact ⟨_, rfl, h⟩
theorem call_zip2 {l0 l1 : Addr} {xs0 xs1 : Array Value} {Q : Value → Shared → Prop} (u0 : s.heap.IsTuple l0 xs0) (u1 : s.heap.IsTuple l1 xs1)
    (h : ∀ h', ZipO h' (s.heap.objs.size + 4) (s.heap.objs.size + 2) (s.heap.objs.size + 3) .none (.bool false) → TupO h' (s.heap.objs.size + 2) #[.ref (s.heap.objs.size + 0), .ref (s.heap.objs.size + 1)] →
      TupO h' (s.heap.objs.size + 3) #[.none, .none] → h'.IsTupleIter (s.heap.objs.size + 0) l0 0 → h'.IsTupleIter (s.heap.objs.size + 1) l1 0 → h'.objs.size = s.heap.objs.size + 5 →
      (∀ c o, s.heap.get? c = some o → h'.get? c = some o) → Q (.ref (s.heap.objs.size + 4)) { s with heap := h' }) :
    wpAny (model prog w) A (call (.type "zip") [.ref l0, .ref l1]) Q E s := by
  refine callType_new PySem.F.called_zip (by decide) (typeCall_2 _ _ ) (newCall_2 _ _ ) (fun obj => argsO_2 obj _ _ ) PySem.F.entry_zip_new
    (meets_new2 l0 l1 xs0 xs1) ⟨u0, u1, ?_⟩
  have z0 : s.heap.objs.size = s.heap.objs.size + 0 := rfl
  have z1 : (Z2_1 s.heap l0 l1).objs.size = s.heap.objs.size + 1 := by rw [Heap.size_push]
  have z2 : (Z2_2 s.heap l0 l1).objs.size = s.heap.objs.size + 2 := by rw [Heap.size_push, z1]
  have za : (Z2_a s.heap l0 l1).objs.size = s.heap.objs.size + 3 := by rw [Heap.size_push, z2]
  have zb : (Z2_b s.heap l0 l1).objs.size = s.heap.objs.size + 4 := by rw [Heap.size_push, za]
  have zc : (Z2_c s.heap l0 l1).objs.size = s.heap.objs.size + 5 := by rw [Heap.size_push, zb]
  have gz : (Z2_c s.heap l0 l1).get? (Z2_b s.heap l0 l1).objs.size = some _ := Heap.get?_push_size _ rfl
  have gb : (Z2_c s.heap l0 l1).get? (Z2_a s.heap l0 l1).objs.size = some _ := Heap.get?_push_of_some _ (Heap.get?_push_size _ rfl)
  have ga : (Z2_c s.heap l0 l1).get? (Z2_2 s.heap l0 l1).objs.size = some _ := Heap.get?_push_of_some _ (Heap.get?_push_of_some _ (Heap.get?_push_size _ rfl))
  have g0 : (Z2_c s.heap l0 l1).get? (Z2_0 s.heap).objs.size = some _ := (Heap.get?_push_of_some _ (Heap.get?_push_of_some _ (Heap.get?_push_of_some _ (Heap.get?_push_of_some _ (Heap.get?_push_size _ rfl)))))
  have g1 : (Z2_c s.heap l0 l1).get? (Z2_1 s.heap l0 l1).objs.size = some _ := (Heap.get?_push_of_some _ (Heap.get?_push_of_some _ (Heap.get?_push_of_some _ (Heap.get?_push_size _ rfl))))
  show _ ∧ _
  rw [z2, za, zb] at gz
  rw [z1, z2] at ga
  rw [za] at gb
  rw [z1] at g1
  rw [zb]
  exact ⟨⟨_, gz, rfl⟩, h _ gz ga gb ⟨_, g0, rfl, rfl⟩ ⟨_, g1, rfl, rfl⟩ zc fun c o x => (Heap.get?_push_of_some _ (Heap.get?_push_of_some _ (Heap.get?_push_of_some _ (Heap.get?_push_of_some _ (Heap.get?_push_of_some _ x)))))⟩

end
end RZ

/-! zip(*xs) as an iterator of a name, over data -/
namespace Ab
open PySem PySem.Spec PyProof.Rows L2 RZ
theorem callWith_typeS {M : Model} {A : Around} {E : Value → Shared → Prop} {s : Shared} {pos : Pos} {T : String} {args : List (Bool × Sem Value)} {Q : Value → Shared → Prop} (hst : args.any (·.1) = true)
    (h : wpAny M A (evalArgs (.type T) true args []) (fun a s₁ => wpAny M A (call (.type T) ([] ++ a.pos) a.kw) Q E s₁) E s) : wpAny M A (callWith pos (.type T) [] args []) Q E s := by
  unfold callWith
  refine wpAny_bind (wpAny_holding (wpAny_mono h (fun a s₁ h₁ => wpAny_bind (wpAny_standAt ?_)) fun _ _ x => x))
  simp only [hst, Bool.true_or]
  refine wpAny_bind (wpAny_pure ?_)
  exact wpAny_bind (wpAny_operating (wpAny_mono h₁ (fun r s₂ hr => wpAny_bind (wpAny_holding (wpAny_point (wpAny_pure hr)))) fun _ _ x => x))
/-- the tuples at ls, their items in new tuples, row by row -/
def ItS (K : PySem.W.Frag) (ls : List (Addr × List V)) (rows : List (List V)) : It := ⟨fun i H => i < rows.length ∧ ∀ p ∈ ls, SqT K H p.1 p.2, fun i H x H' => ∃ T r, rows[i]? = some r ∧ x = .ref T ∧ H T = none ∧ H' = upd H T (.tup r), fun i H => rows.length ≤ i ∧ ∀ p ∈ ls, SqT K H p.1 p.2⟩

theorem turnS1 {P : Program} {w : World} {K : PySem.W.Frag} {x : Str} {tp : Pos} {z TI TO i0 l0 : Addr} {v0 : List V} (D : Ap1 z TI TO i0 l0)  :
    Turn P w K (.Name x tp) (ItS K [(l0, v0)] (v0.map fun x => [x])) [z, TI, TO, i0] z (fun i h => ∃ f0 f1 y0, FZ f0 ∧ ZipO h z TI TO f0 f1 ∧ TupO h TI #[.ref i0] ∧ TupO h TO #[y0] ∧ h.IsTupleIter i0 l0 i) where
  mem := by simp
  obj := fun i h st c hc => by
    obtain ⟨f0, f1, y0, hf, hz, hTI, hTO, ⟨o0, e0, _, d0⟩⟩ := st
    have e' : c = z ∨ c = TI ∨ c = TO ∨ c = i0 := by simpa using hc
    rcases e' with q | q | q | q
    · rw [q]; exact ⟨_, hz, fun v q => nomatch q⟩
    · rw [q]; exact ⟨_, hTI, fun v q => nomatch q⟩
    · rw [q]; exact ⟨_, hTO, fun v q => nomatch q⟩
    · rw [q]; exact ⟨o0, e0, fun v q => by rw [d0] at q; cases q⟩
  keep := fun i h h' st k => by
    obtain ⟨f0, f1, y0, hf, hz, hTI, hTO, t0⟩ := st
    exact ⟨f0, f1, y0, hf, k z (by simp) _ hz, k TI (by simp) _ hTI, k TO (by simp) _ hTO, t0.at fun o q => k i0 (by simp) o q⟩
  item := by
    intro X hP hw hK hc i pins s σ H E I hf st hg
    subst hP hw hK
    obtain ⟨f0, f1, y0, hff, hz, hTI, hTO, t0⟩ := st
    obtain ⟨hi, hls⟩ := hg
    have hi0 : i < v0.length := by
      simp only [List.length_map, List.length_zip] at hi
      omega
    obtain ⟨its0, rv0, p0, _⟩ := I.tuple (hls (l0, v0) (by simp))
    obtain ⟨u0, hu0, ru0⟩ := rv0.get (i := i) (List.getElem?_eq_getElem (l := v0) hi0)
    have hzl : z < s.heap.objs.size := Heap.lt_size hz
    refine nx1_item D hz hff hTI hTO t0 (show s.heap.IsTuple l0 its0.toArray from p0) (x0 := u0) (by simpa using hu0) fun h' f0' f1' w0 hf' z' TO' t0' hT hsz hk => ?_
    refine ⟨_, rfl, wpAny_pure ?_⟩
    have new : ObjOk X.prog X.w (upd H s.heap.objs.size (.tup [v0[i]])) h' s.heap.objs.size (.tup [v0[i]]) :=
      ⟨by show 1 ≤ sizeLine; decide, [u0], (.cons ru0 .nil), ⟨_, hT, rfl, _, rfl⟩⟩
    have I1 : Inv X pins σ (upd H s.heap.objs.size (.tup [v0[i]])) { s with heap := h' } :=
      I.turnedNew (t' := s.toks) (ch := [z, TI, TO, i0]) (fun c o hb q => hk c o (fun q2 => hb (by simp [q2])) (fun q2 => hb (by simp [q2])) (fun q2 => hb (by simp [q2])) q) hf (Nat.le_refl _) new
    have hTIk : TupO h' TI #[.ref i0] := hk _ _ D.TI_z D.TI_TO D.TI_i0 hTI
    refine ⟨.ref s.heap.objs.size, _, I1, rfl, ⟨_, _, ?_, rfl, I.hok.fresh (Nat.le_refl _), rfl⟩, ⟨f0', f1', w0, hf', z', hTIk, TO', t0'⟩, fun c hcm => ?_⟩
    · rw [List.getElem?_map, List.getElem?_eq_getElem hi0]; rfl
    · have hlt : c < s.heap.objs.size := by
        have e' : c = z ∨ c = TI ∨ c = TO ∨ c = i0 := by simpa using hcm
        rcases e' with q | q | q | q
        · rw [q]; exact hzl
        · rw [q]; exact Heap.lt_size hTI
        · rw [q]; exact Heap.lt_size hTO
        · rw [q]; obtain ⟨_, e1, _⟩ := t0; exact Heap.lt_size e1
      rw [upd_ne (Nat.ne_of_lt hlt)]
      exact (hf c hcm).1
  done := by
    intro X hP hw hK hc i pins s σ H E I hf st hg
    subst hP hw hK
    obtain ⟨f0, f1, y0, hff, hz, hTI, hTO, t0⟩ := st
    obtain ⟨hi, hls⟩ := hg
    have hi0 : v0.length ≤ i := by
      simp only [List.length_map, List.length_zip] at hi
      omega
    obtain ⟨its0, rv0, p0, _⟩ := I.tuple (hls (l0, v0) (by simp))
    have hlen : v0.length = its0.length := rv0.length
    exact nx1_end (I.ok.hd hc) D hz hff hTI hTO t0 (show s.heap.IsTuple l0 its0.toArray from p0) (by simp; omega) fun h' hk => ⟨rfl, I.turnedL (t' := s.toks) (ch := [z, TI, TO, i0]) (fun c o hb q =>
      hk c o (fun q2 => hb (by simp [q2])) (fun q2 => hb (by simp [q2])) (fun q2 => hb (by simp [q2])) q) hf⟩
  self := fun A i s Q E st h => by
    obtain ⟨f0, f1, y0, hff, hz, _⟩ := st
    refine wpAny_pyIter_slot ⟨_, hz, rfl⟩ PySem.F.slot_zip_iter (wpAny_call_entry PySem.F.slot_zip_iter ⟨_, hz, rfl⟩ PySem.F.entry_zip_iter ?_ (PySem.F.args_zip_iter_1 _))
    show wpAny _ _ (ret (.ref z)) _ _ s
    exact wpAny_pure ⟨_, rfl, "zip", _, ⟨_, hz, rfl⟩, PySem.F.slot_zip_next.lookup, h⟩

theorem turnS2 {P : Program} {w : World} {K : PySem.W.Frag} {x : Str} {tp : Pos} {z TI TO i0 i1 l0 l1 : Addr} {v0 v1 : List V} (D : Ap2 z TI TO i0 i1 l0 l1) (hl : v0.length = v1.length) :
    Turn P w K (.Name x tp) (ItS K [(l0, v0), (l1, v1)] ((v0.zip v1).map fun p => [p.1, p.2])) [z, TI, TO, i0, i1] z (fun i h => ∃ f0 f1 y0 y1, FZ f0 ∧ ZipO h z TI TO f0 f1 ∧ TupO h TI #[.ref i0, .ref i1] ∧ TupO h TO #[y0, y1] ∧ h.IsTupleIter i0 l0 i ∧ h.IsTupleIter i1 l1 i) where
  mem := by simp
  obj := fun i h st c hc => by
    obtain ⟨f0, f1, y0, y1, hf, hz, hTI, hTO, ⟨o0, e0, _, d0⟩, ⟨o1, e1, _, d1⟩⟩ := st
    have e' : c = z ∨ c = TI ∨ c = TO ∨ c = i0 ∨ c = i1 := by simpa using hc
    rcases e' with q | q | q | q | q
    · rw [q]; exact ⟨_, hz, fun v q => nomatch q⟩
    · rw [q]; exact ⟨_, hTI, fun v q => nomatch q⟩
    · rw [q]; exact ⟨_, hTO, fun v q => nomatch q⟩
    · rw [q]; exact ⟨o0, e0, fun v q => by rw [d0] at q; cases q⟩
    · rw [q]; exact ⟨o1, e1, fun v q => by rw [d1] at q; cases q⟩
  keep := fun i h h' st k => by
    obtain ⟨f0, f1, y0, y1, hf, hz, hTI, hTO, t0, t1⟩ := st
    exact ⟨f0, f1, y0, y1, hf, k z (by simp) _ hz, k TI (by simp) _ hTI, k TO (by simp) _ hTO, t0.at fun o q => k i0 (by simp) o q, t1.at fun o q => k i1 (by simp) o q⟩
  item := by
    intro X hP hw hK hc i pins s σ H E I hf st hg
    subst hP hw hK
    obtain ⟨f0, f1, y0, y1, hff, hz, hTI, hTO, t0, t1⟩ := st
    obtain ⟨hi, hls⟩ := hg
    have hi0 : i < v0.length := by
      simp only [List.length_map, List.length_zip] at hi
      omega
    obtain ⟨its0, rv0, p0, _⟩ := I.tuple (hls (l0, v0) (by simp))
    obtain ⟨u0, hu0, ru0⟩ := rv0.get (i := i) (List.getElem?_eq_getElem (l := v0) hi0)
    obtain ⟨its1, rv1, p1, _⟩ := I.tuple (hls (l1, v1) (by simp))
    obtain ⟨u1, hu1, ru1⟩ := rv1.get (i := i) (List.getElem?_eq_getElem (l := v1) (show i < v1.length by omega))
    have hzl : z < s.heap.objs.size := Heap.lt_size hz
    refine nx2_item D hz hff hTI hTO t0 t1 (show s.heap.IsTuple l0 its0.toArray from p0) (show s.heap.IsTuple l1 its1.toArray from p1) (x0 := u0) (x1 := u1) (by simpa using hu0) (by simpa using hu1) fun h' f0' f1' w0 w1 hf' z' TO' t0' t1' hT hsz hk => ?_
    refine ⟨_, rfl, wpAny_pure ?_⟩
    have new : ObjOk X.prog X.w (upd H s.heap.objs.size (.tup [v0[i], v1[i]])) h' s.heap.objs.size (.tup [v0[i], v1[i]]) :=
      ⟨by show 2 ≤ sizeLine; decide, [u0, u1], (.cons ru0 (.cons ru1 .nil)), ⟨_, hT, rfl, _, rfl⟩⟩
    have I1 : Inv X pins σ (upd H s.heap.objs.size (.tup [v0[i], v1[i]])) { s with heap := h' } :=
      I.turnedNew (t' := s.toks) (ch := [z, TI, TO, i0, i1]) (fun c o hb q => hk c o (fun q2 => hb (by simp [q2])) (fun q2 => hb (by simp [q2])) (fun q2 => hb (by simp [q2])) (fun q2 => hb (by simp [q2])) q) hf (Nat.le_refl _) new
    have hTIk : TupO h' TI #[.ref i0, .ref i1] := hk _ _ D.TI_z D.TI_TO D.TI_i0 D.TI_i1 hTI
    refine ⟨.ref s.heap.objs.size, _, I1, rfl, ⟨_, _, ?_, rfl, I.hok.fresh (Nat.le_refl _), rfl⟩, ⟨f0', f1', w0, w1, hf', z', hTIk, TO', t0', t1'⟩, fun c hcm => ?_⟩
    · rw [List.getElem?_map, (List.getElem?_zip_eq_some (z := (v0[i], v1[i]))).mpr ⟨List.getElem?_eq_getElem hi0, List.getElem?_eq_getElem (by omega)⟩]; rfl
    · have hlt : c < s.heap.objs.size := by
        have e' : c = z ∨ c = TI ∨ c = TO ∨ c = i0 ∨ c = i1 := by simpa using hcm
        rcases e' with q | q | q | q | q
        · rw [q]; exact hzl
        · rw [q]; exact Heap.lt_size hTI
        · rw [q]; exact Heap.lt_size hTO
        · rw [q]; obtain ⟨_, e1, _⟩ := t0; exact Heap.lt_size e1
        · rw [q]; obtain ⟨_, e1, _⟩ := t1; exact Heap.lt_size e1
      rw [upd_ne (Nat.ne_of_lt hlt)]
      exact (hf c hcm).1
  done := by
    intro X hP hw hK hc i pins s σ H E I hf st hg
    subst hP hw hK
    obtain ⟨f0, f1, y0, y1, hff, hz, hTI, hTO, t0, t1⟩ := st
    obtain ⟨hi, hls⟩ := hg
    have hi0 : v0.length ≤ i := by
      simp only [List.length_map, List.length_zip] at hi
      omega
    obtain ⟨its0, rv0, p0, _⟩ := I.tuple (hls (l0, v0) (by simp))
    obtain ⟨its1, rv1, p1, _⟩ := I.tuple (hls (l1, v1) (by simp))
    have hlen : v0.length = its0.length := rv0.length
    exact nx2_end (I.ok.hd hc) D hz hff hTI hTO t0 t1 (show s.heap.IsTuple l0 its0.toArray from p0) (show s.heap.IsTuple l1 its1.toArray from p1) (by simp; omega) fun h' hk => ⟨rfl, I.turnedL (t' := s.toks) (ch := [z, TI, TO, i0, i1]) (fun c o hb q =>
      hk c o (fun q2 => hb (by simp [q2])) (fun q2 => hb (by simp [q2])) (fun q2 => hb (by simp [q2])) (fun q2 => hb (by simp [q2])) q) hf⟩
  self := fun A i s Q E st h => by
    obtain ⟨f0, f1, y0, y1, hff, hz, _⟩ := st
    refine wpAny_pyIter_slot ⟨_, hz, rfl⟩ PySem.F.slot_zip_iter (wpAny_call_entry PySem.F.slot_zip_iter ⟨_, hz, rfl⟩ PySem.F.entry_zip_iter ?_ (PySem.F.args_zip_iter_1 _))
    show wpAny _ _ (ret (.ref z)) _ _ s
    exact wpAny_pure ⟨_, rfl, "zip", _, ⟨_, hz, rfl⟩, PySem.F.slot_zip_next.lookup, h⟩

theorem ap1 (n l0 : Nat) (h : l0 < n) : Ap1 (n + 3) (n + 1) (n + 2) (n + 0) l0 := by constructor <;> (show (_ : Nat) ≠ _; omega)
theorem ap2 (n l0 l1 : Nat) (h : l0 < n) (h' : l1 < n) : Ap2 (n + 4) (n + 2) (n + 3) (n + 0) (n + 1) l0 l1 := by constructor <;> (show (_ : Nat) ≠ _; omega)
def iZipS (K : PySem.W.Frag) (te : TE) : TI := fun σ H R => te σ H fun x H1 => ∃ a vs, x = .ref a ∧ SqL K H1 a vs ∧ ((∃ l0 v0, vs = [.ref l0] ∧ SqT K H1 l0 v0 ∧ R (ItS K [(l0, v0)] (v0.map fun x => [x])) H1) ∨ ∃ l0 v0 l1 v1, vs = [.ref l0, .ref l1] ∧ SqT K H1 l0 v0 ∧ SqT K H1 l1 v1 ∧ v0.length = v1.length ∧ R (ItS K [(l0, v0), (l1, v1)] ((v0.zip v1).map fun p => [p.1, p.2])) H1)
theorem pi_zipS {X : Cx} {e : Expr} {te : TE} {p pos tp sp_ : Pos} {x : Str} (hg : Gl X "zip") (hm : X.mg "zip" = none) (he : PE X e te)
    (hs : starEach [.Starred e sp_] X.env = [(true, eval e X.env)] := by rfl) : PI X (.Name x tp) (.Call (.Name "zip" p) [.Starred e sp_] [] pos) (iZipS X.K te) := by
  refine ⟨fun pins s σ H R I h => ?_⟩
  refine Call_ (ld_blt I hg hm PyProof.Rows.boot_zip ?_)
  rw [hs]
  refine callWith_typeS rfl (PySem.W.ks_lone (thn (he.run pins s σ H _ I h) fun v s1 ⟨y, H1, I1, ry, a, vs, ey, hx, q⟩ => ?_))
  subst ey
  obtain rfl : v = Value.ref a := ry
  refine StX.star_any I1 (.inr hx) fun us s2 I2 rv => ?_
  rcases q with ⟨l0, v0, rfl, h0, q⟩ | ⟨l0, v0, l1, v1, rfl, h0, h1, hl, q⟩
  · cases rv with
    | cons r rr =>
      cases rr; cases r
      obtain ⟨its0, rv0, p0, _⟩ := I2.tuple h0
      obtain ⟨o0, ho0, _⟩ := id p0
      have hlt0 : (l0 : Nat) < s2.heap.objs.size := Heap.lt_size ho0
      refine call_zip1 (show s2.heap.IsTuple l0 its0.toArray from p0) fun h' hz hTI hTO t0 hsz hk => ?_
      have I3 : Inv X pins σ H1 { s2 with heap := h' } := I2.kept (t' := s2.toks) hk
      have ap := ap1 s2.heap.objs.size l0 hlt0
      have T := turnS1 (P := X.prog) (w := X.w) (K := X.K) (x := x) (tp := tp) (v0 := v0) ap
      refine T.self X.A 0 _ _ _ ⟨_, _, _, .inl rfl, hz, hTI, hTO, t0⟩ ?_
      refine ⟨_, _, _, _, H1, rfl, I3, T, ⟨_, _, _, .inl rfl, hz, hTI, hTO, t0⟩, fun c hc => ?_, q⟩
      have hle : s2.heap.objs.size ≤ c := by
        have e' : c = s2.heap.objs.size + 3 ∨ c = s2.heap.objs.size + 1 ∨ c = s2.heap.objs.size + 2 ∨ c = s2.heap.objs.size + 0 := by simpa using hc
        rcases e' with z | z | z | z <;> rw [z] <;> exact Nat.le_add_right _ _
      exact I2.fpOk hle (I2.hok.fresh hle)
  · cases rv with
    | cons r rr =>
      cases rr with
      | cons r' rr =>
        cases rr; cases r; cases r'
        obtain ⟨its0, rv0, p0, _⟩ := I2.tuple h0
        obtain ⟨its1, rv1, p1, _⟩ := I2.tuple h1
        obtain ⟨o0, ho0, _⟩ := id p0
        obtain ⟨o1, ho1, _⟩ := id p1
        have hlt0 : (l0 : Nat) < s2.heap.objs.size := Heap.lt_size ho0
        have hlt1 : (l1 : Nat) < s2.heap.objs.size := Heap.lt_size ho1
        refine call_zip2 (show s2.heap.IsTuple l0 its0.toArray from p0) (show s2.heap.IsTuple l1 its1.toArray from p1) fun h' hz hTI hTO t0 t1 hsz hk => ?_
        have I3 : Inv X pins σ H1 { s2 with heap := h' } := I2.kept (t' := s2.toks) hk
        have ap := ap2 s2.heap.objs.size l0 l1 hlt0 hlt1
        have T := turnS2 (P := X.prog) (w := X.w) (K := X.K) (x := x) (tp := tp) (v0 := v0) (v1 := v1) ap hl
        refine T.self X.A 0 _ _ _ ⟨_, _, _, _, .inl rfl, hz, hTI, hTO, t0, t1⟩ ?_
        refine ⟨_, _, _, _, H1, rfl, I3, T, ⟨_, _, _, _, .inl rfl, hz, hTI, hTO, t0, t1⟩, fun c hc => ?_, q⟩
        have hle : s2.heap.objs.size ≤ c := by
          have e' : c = s2.heap.objs.size + 4 ∨ c = s2.heap.objs.size + 2 ∨ c = s2.heap.objs.size + 3 ∨ c = s2.heap.objs.size + 0 ∨ c = s2.heap.objs.size + 1 := by simpa using hc
          rcases e' with z | z | z | z | z <;> rw [z] <;> exact Nat.le_add_right _ _
        exact I2.fpOk hle (I2.hok.fresh hle)
/-- over data -/
def dZs : DD → (List DD → Prop) → Prop := fun x P => (∃ xs, x = .list [.tuple xs] ∧ P (xs.map fun a => .tuple [a])) ∨ ∃ xs ys, x = .list [.tuple xs, .tuple ys] ∧ xs.length = ys.length ∧ P ((xs.zip ys).map fun p => .tuple [p.1, p.2])
def iZs (α : AEx) : AOx := fun env P => α env fun x => dZs x P
theorem row_of {K : KW} {F : Hp} {v0 v1 : List V} {xs ys : List DD} (h0 : RpAll K F v0 xs) (h1 : RpAll K F v1 ys) {i : Nat} {r : List V} (h : ((v0.zip v1).map fun p => [p.1, p.2])[i]? = some r) : ∃ ds, ((xs.zip ys).map fun p => PyData.tuple [p.1, p.2])[i]? = some (.tuple ds) ∧ RpAll K F r ds := by
  rw [List.getElem?_map] at h
  obtain ⟨⟨a, b⟩, hz, rfl⟩ := Option.map_eq_some_iff.mp h
  obtain ⟨ha, hb⟩ := List.getElem?_zip_eq_some.mp hz
  obtain ⟨x, hx, rx⟩ := h0.getV ha
  obtain ⟨y, hy, ry⟩ := h1.getV hb
  refine ⟨[x, y], ?_, .cons rx (.cons ry .nil)⟩
  rw [List.getElem?_map, (List.getElem?_zip_eq_some (z := (x, y))).mpr ⟨hx, hy⟩]
  rfl
theorem itm_S {K : KW} {F1 : Hp} {ls : List (Addr × List V)} {rows : List (List V)} {ds : List DD} (hl : rows.length = ds.length) (hls : ∀ p ∈ ls, SqT K F1 p.1 p.2) (hr : ∀ (i : Nat) (r : List V), rows[i]? = some r → ∃ es, ds[i]? = some (PyData.tuple es) ∧ RpAll K F1 r es) : Itm K F1 (ItS K ls rows) ds := fun T i H F b sb => ⟨fun hi => by
    refine ⟨⟨by omega, fun p hp => b.sub.seqT (sb.seqT (hls p hp))⟩, fun x H' y => ?_⟩
    obtain ⟨Tt, r, h1, rfl, nT, rfl⟩ := y
    obtain ⟨es, h2, h3⟩ := hr i r h1
    exact ⟨_, _, h2, .al b nT, .tup (.inl (.inl upd_same)) (RpAll.sub (sb.trans (Stp.al (o := .tup _) b nT).ext) _ h3)⟩, fun hi => ⟨by omega, fun p hp => b.sub.seqT (sb.seqT (hls p hp))⟩⟩
theorem ji_zipS {X : Cx} {e : Expr} {α : AEx} {p pos tp sp_ : Pos} {x : Str} (hm : X.mg "zip" = none) (he : JE X e α) (hg : Gl X "zip" := by rfl) (hs : starEach [.Starred e sp_] X.env = [(true, eval e X.env)] := by rfl) :
    JI X (.Name x tp) (.Call (.Name "zip" p) [.Starred e sp_] [] pos) (iZs α) := by
  obtain ⟨t, a1, a2⟩ := he.ex
  refine ⟨_, pi_zipS hg hm a1 hs, fun B F0 M T env σ H F R0 P p Q q => a2 B F0 M T env σ H F R0 _ p _ fun v d H1 F1 s1 d1 p1 => ?_⟩
  have b1 := (R0.step s1).sub
  rcases p1 with ⟨xs, rfl, p1⟩ | ⟨xs, ys, rfl, hl, p1⟩
  · cases d1 with
    | @lst a vs _ g1 g2 =>
      obtain ⟨w, rfl, g3⟩ := one_of g2
      cases g3 with
      | @tup l0 v0 _ k1 k2 =>
        refine ⟨a, _, rfl, .inl (.inl (b1 _ _ g1)), .inl ⟨l0, v0, rfl, b1.seqT k1, q _ _ H1 F1 s1 (itm_S (by rw [List.length_map, List.length_map, k2.len]) (fun p hp => ?_) fun i r hr => ?_) p1⟩⟩
        · rw [List.mem_singleton] at hp
          subst hp; exact k1
        · rw [List.getElem?_map] at hr
          obtain ⟨w, hw, rfl⟩ := Option.map_eq_some_iff.mp hr
          obtain ⟨y, hy, ry⟩ := k2.getV hw
          exact ⟨[y], by rw [List.getElem?_map, hy]; rfl, .cons ry .nil⟩
  · cases d1 with
    | @lst a vs _ g1 g2 =>
      obtain ⟨w, w', rfl, g3, g4⟩ := two_of g2
      cases g3 with
      | @tup l0 v0 _ k1 k2 =>
        cases g4 with
        | @tup l1 v1 _ m1 m2 =>
          refine ⟨a, _, rfl, .inl (.inl (b1 _ _ g1)), .inr ⟨l0, v0, l1, v1, rfl, b1.seqT k1, b1.seqT m1, by rw [k2.len, m2.len]; exact hl, q _ _ H1 F1 s1 (itm_S (by rw [List.length_map, List.length_map, List.length_zip, List.length_zip, k2.len, m2.len]) (fun p hp => ?_) fun i r hr => row_of k2 m2 hr) p1⟩⟩
          simp only [List.mem_cons, List.not_mem_nil, or_false] at hp
          rcases hp with rfl | rfl
          · exact k1
          · exact m1
end Ab

/-! max of a tuple of one, two, three ints -/
namespace Ab
open PySem PySem.Spec PyProof.Rows L2
section
variable {prog : Program} {w : World} {A : Around} {E : Value → Shared → Prop} {s : Shared} {l : Addr}
theorem iter_tupA {its : Array Value} {Q : Value → Shared → Prop} (hl : s.heap.IsTuple l its)
    (h : ∀ s2 : Shared, s2 = { s with heap := s.heap.push { cls := .type "tuple_iterator", data := .fields #[.ref l, .int 0 0] } } →
      (s2.heap.IsTupleIter s.heap.objs.size l 0 ∧ s2.heap.IsTuple l its) → (∀ b ∈ [s.heap.objs.size, l], b < s2.heap.objs.size) → l ≠ s.heap.objs.size → Q (.ref s.heap.objs.size) s2) :
    wpAny (model prog w) A (pyIter (.ref l)) Q E s := iter_pair hl h
theorem max_one {Q : Value → Shared → Prop} {a : Value} (hh : A.handled = none) (hl : s.heap.IsTuple l #[a]) (ha : Flt.NumV a)
    (h : ∀ h' tk, (∀ d o, s.heap.get? d = some o → h'.get? d = some o) → Q a { s with heap := h', toks := tk }) :
    wpAny (model prog w) A (call (.builtin "max") [.ref l]) Q E s := by
  refine call_max_walk (iter_tupA hl fun s2 e st hfp hlI => ?_)
  subst e
  refine ⟨_, _, _, _, _, _, _, rfl, Walks.tuple (A := A.in1) hh _ l hlI #[a], st, hfp, by simp, Flt.cmpOf_gt #[a] (by simp [ha]), fun v h' tk hP hk => ?_⟩
  have := h h' tk (kept_pair hk)
  have hv : a = v := by simpa [argBest] using hP
  rw [hv] at this
  exact this
theorem max_three {Q : Value → Shared → Prop} {a b c : Value} (hh : A.handled = none) (hl : s.heap.IsTuple l #[a, b, c]) (ha : Flt.NumV a) (hb : Flt.NumV b) (hc : Flt.NumV c)
    (h : ∀ h' tk, (∀ d o, s.heap.get? d = some o → h'.get? d = some o) → Q (if Flt.ltV (if Flt.ltV a b = true then b else a) c = true then c else (if Flt.ltV a b = true then b else a)) { s with heap := h', toks := tk }) :
    wpAny (model prog w) A (call (.builtin "max") [.ref l]) Q E s := by
  refine call_max_walk (iter_tupA hl fun s2 e st hfp hlI => ?_)
  subst e
  refine ⟨_, _, _, _, _, _, _, rfl, Walks.tuple (A := A.in1) hh _ l hlI #[a, b, c], st, hfp, by simp, Flt.cmpOf_gt #[a, b, c] (by simp [ha, hb, hc]), fun v h' tk hP hk => ?_⟩
  have := h h' tk (kept_pair hk)
  have hv : (if Flt.ltV (if Flt.ltV a b = true then b else a) c = true then c else (if Flt.ltV a b = true then b else a)) = v := by
    cases h1 : Flt.ltV a b <;> cases h2 : Flt.ltV a c <;> cases h3 : Flt.ltV b c <;> simp [argBest, h1, h2, h3] at hP <;> simp [h1, h2, h3] <;> exact hP
  rw [hv] at this
  exact this
end
section
variable {X : Cx} {K : KW}
def rMax1 (K : PySem.W.Frag) : List V → Hp → VK → Prop := fun vs H Q => ∃ (a : Addr) (i : Int), vs = [V.ref a] ∧ SqT K H a [.int i] ∧ Q (.int i) H
theorem cr_max1 (hc : X.calm = true) : CallR X (.builtin "max") (rMax1 X.K) := by
  intro pins s σ H vs us Q I r h
  obtain ⟨a, i, rfl, hs, q⟩ := h
  obtain ⟨u, rfl, ru⟩ := vals1 r
  cases ru
  obtain ⟨its, rv, p, hz⟩ := I.tuple hs
  obtain ⟨u1, rfl, t1, rfl⟩ : ∃ u1, its = [u1] ∧ RelV (.int i) u1 := by
    cases rv with
    | cons a b => cases b; exact ⟨_, rfl, a⟩
  exact max_one (I.ok.hd hc) p num_int fun h' tk k => ⟨.int i, H, I.kept k, ⟨_, rfl⟩, q⟩
def rMax3 (K : PySem.W.Frag) : List V → Hp → VK → Prop := fun vs H Q => ∃ (a : Addr) (i j k : Int), vs = [V.ref a] ∧ SqT K H a [.int i, .int j, .int k] ∧ Q (.int (max (max i j) k)) H
theorem cr_max3 (hc : X.calm = true) : CallR X (.builtin "max") (rMax3 X.K) := by
  intro pins s σ H vs us Q I r h
  obtain ⟨a, i, j, k, rfl, hs, q⟩ := h
  obtain ⟨u, rfl, ru⟩ := vals1 r
  cases ru
  obtain ⟨its, rv, p, hz⟩ := I.tuple hs
  obtain ⟨u1, u2, u3, rfl, ⟨t1, rfl⟩, ⟨t2, rfl⟩, t3, rfl⟩ : ∃ u1 u2 u3, its = [u1, u2, u3] ∧ RelV (.int i) u1 ∧ RelV (.int j) u2 ∧ RelV (.int k) u3 := by
    cases rv with
    | cons a b => cases b with
      | cons c d => cases d with
        | cons e f => cases f; exact ⟨_, _, _, rfl, a, c, e⟩
  refine max_three (I.ok.hd hc) p num_int num_int num_int fun h' tk kk => ⟨_, H, I.kept kk, ?_, q⟩
  simp only [lt_int]
  by_cases z : i < j
  · rw [decide_eq_true z, if_pos rfl, show max i j = j by omega, lt_int]
    by_cases y : j < k
    · rw [decide_eq_true y, if_pos rfl, show max j k = k by omega]; exact ⟨_, rfl⟩
    · rw [decide_eq_false y, if_neg Bool.false_ne_true, show max j k = j by omega]; exact ⟨_, rfl⟩
  · rw [decide_eq_false z, if_neg Bool.false_ne_true, show max i j = i by omega, lt_int]
    by_cases y : i < k
    · rw [decide_eq_true y, if_pos rfl, show max i k = k by omega]; exact ⟨_, rfl⟩
    · rw [decide_eq_false y, if_neg Bool.false_ne_true, show max i k = i by omega]; exact ⟨_, rfl⟩
/-- max of a tuple of one to three ints -/
def maxI : List Int → Int
  | [] => 0
  | [a] => a
  | a :: b :: r => maxI (max a b :: r)
termination_by xs => xs.length
def rMaxT (K : KW) : List V → Hp → VK → Prop := fun xs H Q => (rMax1 K xs H Q ∨ rPair max K xs H Q) ∨ rMax3 K xs H Q
theorem cr_maxT (hc : X.calm = true) : CallR X (.builtin "max") (rMaxT (kw X)) := CallR.or (CallR.or (cr_max1 hc) (cr_maxP hc)) (cr_max3 hc)
def dMaxT : List DD → (DD → Prop) → Prop := fun ds P => (∃ i, ds = [.tuple [.int i]] ∧ P (.int i)) ∨ (∃ i j, ds = [.tuple [.int i, .int j]] ∧ P (.int (max i j))) ∨ ∃ i j k, ds = [.tuple [.int i, .int j, .int k]] ∧ P (.int (max (max i j) k))
theorem sc_maxT : SimC K (rMaxT K) dMaxT := fun T H F vs ds b hd P p Q q => by
  rcases p with ⟨i, rfl, p⟩ | ⟨i, j, rfl, p⟩ | ⟨i, j, k, rfl, p⟩
  · obtain ⟨v, rfl, h⟩ := one_of hd
    cases h with
    | tup h1 h2 =>
      cases h2 with
      | cons a c => cases c; cases a; exact .inl (.inl ⟨_, i, rfl, b.sub.seqT h1, q _ _ H F (.refl b) (.int _) p⟩)
  · obtain ⟨v, rfl, h⟩ := one_of hd
    cases h with
    | tup h1 h2 =>
      cases h2 with
      | cons a c => cases c with
        | cons a' d => cases d; cases a; cases a'; exact .inl (.inr ⟨_, i, j, rfl, b.sub.seqT h1, q _ _ H F (.refl b) (.int _) p⟩)
  · obtain ⟨v, rfl, h⟩ := one_of hd
    cases h with
    | tup h1 h2 =>
      cases h2 with
      | cons a c => cases c with
        | cons a' d => cases d with
          | cons a'' e => cases e; cases a; cases a'; cases a''; exact .inr ⟨_, i, j, k, rfl, b.sub.seqT h1, q _ _ H F (.refl b) (.int _) p⟩
end
end Ab
namespace Ab
open PySem PySem.Spec PyProof.Rows L2
section
variable {X : Cx} {K : KW} {e a b c : Expr} {pos p : Pos} {α β γ : AEx}
def dMaxL : List DD → (DD → Prop) → Prop := fun ds P => ∃ ns : List Int, ds = [.list (ns.map PyData.int)] ∧ 0 < ns.length ∧ ∀ m, m ∈ ns → (∀ y, y ∈ ns → y ≤ m) → P (.int m)
theorem sc_maxL : SimC K (rMax K.fr) dMaxL := fun T H F vs ds b hd P p Q q => by
  obtain ⟨ns, rfl, hl, p⟩ := p
  obtain ⟨v, rfl, h⟩ := one_of hd
  cases h with
  | lst h1 h2 =>
    have := ints_of _ h2
    subst this
    exact ⟨_, ns, rfl, .inl (.inl (b.sub _ _ h1)), hl, fun m hm hy => q _ _ H F (.refl b) (.int _) (p m hm hy)⟩
theorem j_bor (ha : JE X a α) (hb : JE X b β) : JE X (.BinOp a .BitOr b pos) (aB (dI fun i j => .int (Builtin.bitOr i j)) α β) := j_op op_or sr_int ha hb
/-! the same as rows for simp -/
variable {env : AE} {P : DD → Prop} {A : AEnds} {Q : Og → Prop}
theorem ex_og {g : Og} : (∃ g', some (Sl.og g) = some (Sl.og g') ∧ Q g') ↔ Q g := ⟨fun ⟨j, e, q⟩ => by cases e; exact q, fun q => ⟨g, rfl, q⟩⟩
theorem ex_dc {d : List (DD × DD)} {Q : List (DD × DD) → Prop} : (∃ d', some (Sl.dc d) = some (Sl.dc d') ∧ Q d') ↔ Q d := ⟨fun ⟨j, e, q⟩ => by cases e; exact q, fun q => ⟨d, rfl, q⟩⟩
theorem ex_dict {d : List (DD × DD)} {Q : List (DD × DD) → Prop} : (∃ d', PyData.dict d = PyData.dict d' ∧ Q d') ↔ Q d := ⟨fun ⟨j, e, q⟩ => by cases e; exact q, fun q => ⟨d, rfl, q⟩⟩
theorem dLenD_d {kvs : List (DD × DD)} : dLenD [.dict kvs] P ↔ P (.int kvs.length) := ⟨fun ⟨_, e, q⟩ => by cases e; exact q, fun q => ⟨kvs, rfl, q⟩⟩
theorem dInD_d {neg : Bool} {x : DD} {kvs : List (DD × DD)} : dInD neg x (.dict kvs) P ↔ isKey x = true ∧ P (.bool (if neg then !dhas kvs (nk x) else dhas kvs (nk x))) := ⟨fun ⟨_, e, q⟩ => by cases e; exact q, fun q => ⟨kvs, rfl, q⟩⟩
theorem dMaxT_1 {i : Int} : dMaxT [.tuple [.int i]] P ↔ P (.int i) := ⟨fun h => by
  rcases h with ⟨_, e, q⟩ | ⟨_, _, e, q⟩ | ⟨_, _, _, e, q⟩ <;> cases e
  exact q, fun q => .inl ⟨_, rfl, q⟩⟩
theorem dMaxT_2 {i j : Int} : dMaxT [.tuple [.int i, .int j]] P ↔ P (.int (max i j)) := ⟨fun h => by
  rcases h with ⟨_, e, q⟩ | ⟨_, _, e, q⟩ | ⟨_, _, _, e, q⟩ <;> cases e
  exact q, fun q => .inr (.inl ⟨_, _, rfl, q⟩)⟩
theorem dMaxT_3 {i j k : Int} : dMaxT [.tuple [.int i, .int j, .int k]] P ↔ P (.int (max (max i j) k)) := ⟨fun h => by
  rcases h with ⟨_, e, q⟩ | ⟨_, _, e, q⟩ | ⟨_, _, _, e, q⟩ <;> cases e
  exact q, fun q => .inr (.inr ⟨_, _, _, rfl, q⟩)⟩
end
end Ab

/-! written tuples of the top; in, sorted, min over data -/
namespace Ab
open PySem PySem.Spec PyProof.Rows L2
theorem units65 {k : Nat} {A : Around} (r : Room k A) : A.units + 65 < cLine := by have := r.un; omega
/-! ### a written tuple -/
theorem rp_kt {K : KW} {F : Hp} {a : Addr} {dd : Option Addr} {its : Array Value} {n : Nat} {sl : Array (Option Value)} {xs : List V} {ds : List DD} (h : K.fr.lookup a = some ⟨.type "tuple", dd, .seq its n, sl⟩) (hz : its.size ≤ sizeLine) (hv : Vals xs its.toList) (hr : RpAll K F xs ds) : Rp K F (.ref a) (.tuple ds) :=
  .tup (.inr ⟨_, its, n, h, rfl, rfl, hz, hv⟩) hr
theorem rp_k2 {K : KW} {F : Hp} {a : Addr} {dd : Option Addr} {n : Nat} {sl : Array (Option Value)} {x : Str} {i : Int} {t u : Tok} (h : K.fr.lookup a = some ⟨.type "tuple", dd, .seq #[.str x t, .int i u] n, sl⟩) : Rp K F (.ref a) (.tuple [.str x, .int i]) :=
  rp_kt h (by show 2 ≤ sizeLine; decide) (xs := [.str x, .int i]) (.cons (show RelV (.str x) (.str x t) from ⟨t, rfl⟩) (.cons (show RelV (.int i) (.int i u) from ⟨u, rfl⟩) .nil)) (.cons (.str x) (.cons (.int i) .nil))
theorem rp_k3 {K : KW} {F : Hp} {a : Addr} {dd : Option Addr} {n : Nat} {sl : Array (Option Value)} {x : Str} {i j : Int} {t u v : Tok} (h : K.fr.lookup a = some ⟨.type "tuple", dd, .seq #[.str x t, .int i u, .int j v] n, sl⟩) : Rp K F (.ref a) (.tuple [.str x, .int i, .int j]) :=
  rp_kt h (by show 3 ≤ sizeLine; decide) (xs := [.str x, .int i, .int j]) (.cons (show RelV (.str x) (.str x t) from ⟨t, rfl⟩) (.cons (show RelV (.int i) (.int i u) from ⟨u, rfl⟩) (.cons (show RelV (.int j) (.int j v) from ⟨v, rfl⟩) .nil))) (.cons (.str x) (.cons (.int i) (.cons (.int j) .nil)))
inductive RefsOf (K : KW) : List Addr → List DD → Prop
  | nil : RefsOf K [] []
  | cons {a : Addr} {as : List Addr} {d : DD} {ds : List DD} : (∀ F, Rp K F (.ref a) d) → RefsOf K as ds → RefsOf K (a :: as) (d :: ds)
theorem refs_vals : ∀ as : List Addr, Vals (as.map V.ref) (as.map Value.ref)
  | [] => .nil
  | a :: as => .cons rfl (refs_vals as)
theorem RefsOf.rp {K : KW} {F : Hp} : ∀ {as : List Addr} {ds : List DD}, RefsOf K as ds → RpAll K F (as.map V.ref) ds
  | _, _, .nil => .nil
  | _, _, .cons h t => .cons (h F) (RefsOf.rp t)
theorem gd_refs {K : KW} {mg : Str → Option Value} {x : Str} {a : Addr} {dd : Option Addr} {n : Nat} {sl : Array (Option Value)} {as : List Addr} {ds : List DD} (hm : mg x = some (.ref a)) (h : K.fr.lookup a = some ⟨.type "tuple", dd, .seq (as.map Value.ref).toArray n, sl⟩) (hz : as.length ≤ 1000) (r : RefsOf K as ds) : GD K mg x (.tuple ds) :=
  ⟨a, hm, fun F => rp_kt h (by simp; exact Nat.le_trans hz (by decide)) (by simpa using refs_vals as) r.rp⟩
section
variable {X : Cx} {K : KW} {e a b c : Expr} {es : List Expr} {pos p : Pos} {α β γ : AEx} {x : Str}
/-! ### in over lists of data -/
def dInL (neg : Bool) : DD → DD → (DD → Prop) → Prop := fun x y P => ∃ ds, y = .list ds ∧ SeqAt.shaped x = true ∧ SeqAt.shaped (.list ds) = true ∧ P (.bool (if neg then !ds.any fun z => PyData.eqv z x else ds.any fun z => PyData.eqv z x))
theorem sr_inL : SimR K (rInD K.fr) (dInL false) := fun T H F x y dx dy b hx hy P p Q q => by
  obtain ⟨ds, rfl, h1, h2, p⟩ := p
  exact ⟨dx, ds, Rp.dp _ (lay_of h1) (Rp.sub b.sub _ hx), Rp.dp _ (lay_of h2) (Rp.sub b.sub _ hy), h1, h2, q _ _ H F (.refl b) (.bl _) p⟩
theorem sr_notinL : SimR K (rNotInD K.fr) (dInL true) := fun T H F x y dx dy b hx hy P p Q q => by
  obtain ⟨ds, rfl, h1, h2, p⟩ := p
  exact ⟨dx, ds, Rp.dp _ (lay_of h1) (Rp.sub b.sub _ hx), Rp.dp _ (lay_of h2) (Rp.sub b.sub _ hy), h1, h2, q _ _ H F (.refl b) (.bl _) p⟩
theorem j_inL (hu : X.A.units + 65 < cLine) (ha : JE X a α) (hb : JE X b β) (hm : behindInMarks .In b = false := by rfl) : JE X (.Compare a [.In] [b] pos) (aB (dInL false) α β) := j_cmp (op_inD hu) sr_inL ha hb hm
theorem j_notinL (hu : X.A.units + 65 < cLine) (ha : JE X a α) (hb : JE X b β) (hm : behindInMarks .NotIn b = false := by rfl) : JE X (.Compare a [.NotIn] [b] pos) (aB (dInL true) α β) := j_cmp (op_notInD hu) sr_notinL ha hb hm
theorem jt_inL (hu : X.A.units + 65 < cLine) (ha : JE X a α) (hb : JE X b β) (hm : behindInMarks .In b = false := by rfl) : JT X (.Compare a [.In] [b] pos) (aT (aB (dInL false) α β)) := jt_cmp (op_inD hu) sr_inL ha hb hm
theorem jt_notinL (hu : X.A.units + 65 < cLine) (ha : JE X a α) (hb : JE X b β) (hm : behindInMarks .NotIn b = false := by rfl) : JT X (.Compare a [.NotIn] [b] pos) (aT (aB (dInL true) α β)) := jt_cmp (op_notInD hu) sr_notinL ha hb hm
/-! ### sorted -/
open PySem.W in
def rSortedDat (X : Cx) : List V → Hp → VK → Prop := fun vs H Q => ∃ (a : Addr) (xs : List V) (ds : List DD) (F : Hp), vs = [V.ref a] ∧ SqL X.K H a xs ∧ Sub F H ∧ RpAll (kw X) F xs ds ∧ PyData.canLayAll0 ds = true ∧ AllAlike ds ∧ Sortable ds ∧ (∀ d ∈ ds, d.depth ≤ 60) ∧
  ∀ l zs, H l = none → RpAll (kw X) F zs (ds.mergeSort (dataLe false fun d => d)) → Q (.ref l) (upd H l (.lst zs))
theorem each_pairs {s : Shared} {σ : L2.St} {H F : Hp} {pins : List (Addr × Obj)} (I : Inv X pins σ H s) (sb : Sub F H) : ∀ {xs : List V} {ds : List DD} {us : List Value}, RpAll (kw X) F xs ds → PyData.canLayAll0 ds = true → Vals xs us →
    PySem.W.EachIs (fun u (b : V × DD) => RelV b.1 u ∧ Rp (kw X) F b.1 b.2) us (xs.zip ds) ∧ PySem.W.EachIs (fun u (b : V × DD) => ∃ as, Reads s.heap u b.2 as) us (xs.zip ds)
  | _, [], _, h, _, r => by cases h; cases r; exact ⟨.nil, .nil⟩
  | _, d :: ds, _, h, l, r => by
    rw [PyData.canLayAll0, Bool.and_eq_true] at l
    cases h with
    | cons h1 h2 =>
      cases r with
      | cons r1 r2 =>
        obtain ⟨e1, e2⟩ := each_pairs I sb h2 l.2 r2
        exact ⟨.cons ⟨r1, h1⟩ e1, .cons (Dp.reads I d _ _ (Rp.dp _ l.1 (Rp.sub sb _ h1)) r1) e2⟩
theorem each_back {F : Hp} : ∀ {us : List Value} {bs : List (V × DD)}, PySem.W.EachIs (fun u (b : V × DD) => RelV b.1 u ∧ Rp K F b.1 b.2) us bs → Vals (bs.map (·.1)) us ∧ RpAll K F (bs.map (·.1)) (bs.map (·.2))
  | _, _, .nil => ⟨.nil, .nil⟩
  | _, _, .cons h t => ⟨.cons h.1 (each_back t).1, .cons h.2 (each_back t).2⟩
theorem zip_snd : ∀ {xs : List V} {ds : List DD}, xs.length = ds.length → (xs.zip ds).map (·.2) = ds
  | [], [], _ => rfl
  | [], _ :: _, h => by cases h
  | _ :: _, [], h => by cases h
  | x :: xs, d :: ds, h => by
    rw [List.zip_cons_cons, List.map_cons, zip_snd (by simpa using h)]
open PySem.W in
theorem cr_sortedDat (hu : X.A.units + 65 < cLine) : CallR X (.builtin "sorted") (rSortedDat X) := by
  intro pins s σ H vs us Q I r h
  obtain ⟨a, xs, ds, F, rfl, hs, sb, hr, hl, hal, hk, hd, q⟩ := h
  obtain ⟨u, rfl, ru⟩ := vals1 r
  cases ru
  obtain ⟨its, rv, pl, hz⟩ := I.list hs
  obtain ⟨e1, e2⟩ := each_pairs I sb hr hl rv
  have hxd := hr.len
  have hm : (xs.zip ds).map (fun b => b.2) = ds := zip_snd hxd
  have hzl : (xs.zip ds).length = xs.length := by rw [List.length_zip, hxd, Nat.min_self]
  refine PySem.W.sorted_data (enc := fun b : V × DD => b.2) (bs := xs.zip ds) (R := fun u b => RelV b.1 u ∧ Rp (kw X) F b.1 b.2) pl.isList e1 e2 (by rw [hm]; exact hal) (by rw [hm]; exact hk) (by rw [hzl]; exact hz) (fun b hb => ?_) fun out hlen e => ?_
  · have : b.2 ∈ ds := by rw [← hm]; exact List.mem_map.mpr ⟨b, hb, rfl⟩
    have := hd _ this
    omega
  · obtain ⟨f1, f2⟩ := each_back e
    have hms : ((xs.zip ds).mergeSort (dataLe false fun b : V × DD => b.2)).map (fun b => b.2) = ds.mergeSort (dataLe false fun d => d) := by
      rw [List.map_mergeSort (r := dataLe false fun b : V × DD => b.2) (s := dataLe false fun d => d) (f := fun b : V × DD => b.2) (fun _ _ _ _ => rfl), hm]
    rw [hms] at f2
    obtain ⟨ep, hat⟩ := sortedAll_at s.heap its out.toArray
    have hn := I.hok.fresh (Nat.le_succ s.heap.objs.size)
    refine ⟨.ref (s.heap.objs.size + 1), _, I.laid (a := s.heap.objs.size + 1) (o := .lst (((xs.zip ds).mergeSort (dataLe false fun b : V × DD => b.2)).map (·.1))) (t' := s.toks) (fun b o q => sortedAll_old q) (Nat.le_succ _) ⟨?_, out, ep, f1, hat⟩, rfl, q _ _ hn f2⟩
    rw [f1.length, hlen, hzl]; exact hz
open PySem.W in
def dSortedO : List DD → (List DD → Prop) → Prop := fun as P => ∃ ds, as = [.list ds] ∧ PyData.canLayAll0 ds = true ∧ AllAlike ds ∧ Sortable ds ∧ (∀ d ∈ ds, d.depth ≤ 60) ∧ P (ds.mergeSort (dataLe false fun d => d))
theorem sc_sorted : SimCO (kw X) (rSortedDat X) dSortedO := fun T H F vs as b hd P p Q q => by
  obtain ⟨ds, rfl, p1, p2, p3, p4, p5⟩ := p
  obtain ⟨v, rfl, h⟩ := one_of hd
  cases h with
  | lst h1 h2 => exact ⟨_, _, ds, F, rfl, .inl (.inl (b.sub _ _ h1)), b.sub, h2, p1, p2, p3, p4, fun l zs hl hz => q l _ _ _ F (.al0 b hl) upd_same (fnone b hl) hl hz p5⟩
end
end Ab

/-! exceptions of own classes: a second end -/
namespace Ab
open PySem PySem.Spec PyProof.Rows L2
theorem pe_imp {X : Cx} {e : Expr} {t t' : TE} (h : PE X e t) (i : ∀ σ H Q, t' σ H Q → t σ H Q) : PE X e t' := ⟨fun pins s σ H Q I q => h.run pins s σ H Q I (i σ H Q q)⟩
theorem ps_imp {X : Cx} {e : Stmt} {t t' : TS} (h : PS X e t) (i : ∀ D σ H, t' D σ H → t D σ H) : PS X e t' := ⟨fun pins s σ H Q I q => h.run pins s σ H Q I (i Q σ H q)⟩
theorem pss_imp {X : Cx} {e : List Stmt} {t t' : TS} (h : PSs X e t) (i : ∀ D σ H, t' D σ H → t D σ H) : PSs X e t' := ⟨fun pins s σ H Q I q => h.run pins s σ H Q I (i Q σ H q)⟩
theorem pa_imp {X : Cx} {e : List Expr} {t t' : TA} (h : PA X e t) (i : ∀ σ H Q, t' σ H Q → t σ H Q) : PA X e t' := ⟨fun pos pins s σ H Q I q => h.run pos pins s σ H Q I (i σ H Q q)⟩
abbrev AXx := AE → (DD → Prop) → (Addr → Prop) → Prop
abbrev ASxx := AEnds → (Addr → AE → Prop) → AE → Prop
abbrev WtX := AE → (DD → Prop) → (Addr → Prop) → Prop
/-- a def that returns or raises -/
def spX (K : KW) (n : Nat) (W : WtX) : Sp := fun vs H Q E => ∃ (F : Hp) (T : Tws K) (as : AE) (P : DD → Prop) (PE : Addr → Prop), Bs T H F ∧ Paired (Arg K T F) vs as ∧ as.length = n ∧ W as P PE ∧
  (∀ v d H' F', Stp T H F H' F' → Rp K F' v d → P d → Q v H') ∧ ∀ C H' F', Stp T H F H' F' → PE C → E (.ref C) none H'
theorem spX_len {K : KW} {n : Nat} {W : WtX} : ∀ vs H Q E, spX K n W vs H Q E → vs.length = n := fun vs H Q E h => by
  obtain ⟨F, T, as, P, PE, _, h2, h3, _⟩ := h
  rw [← h3, pairedLen h2]
structure ClX (P : Program) (w : World) (K : PySem.W.Frag) (mg : Str → Option Value) (base : Heap) (k : Nat) (x : Str) (n : Nat) (W : WtX) : Prop where
  ex : ∃ (f : Addr) (fd : FuncData) (ps : List Str), FnOk P w K mg base (L2.CX P w) k f fd ps (spX ⟨K, P, w⟩ n W) ∧ mg x = some (.ref f) ∧ PySem.W.keepIn K (.ref f) = true ∧ Binds K fd ps []
theorem fn_cx {P : Program} {w : World} {K : PySem.W.Frag} {mg : Str → Option Value} {base : Heap} {CX : CXT} {k : Nat} {f : Addr} {fd : FuncData} {ps : List Str} {sp : Sp} (h : FnOk P w K mg base CX0 k f fd ps sp) : FnOk P w K mg base CX k f fd ps sp :=
  ⟨h.len, fun A outer s H args us vs Q E hr e0 hb r hsp => codeAny_mono (h.run A outer s H args us vs Q E hr e0 hb r hsp) fun r s' q => by
    cases r with
    | error e => exact q.elim
    | ok fl => cases fl <;> exact q⟩
theorem fn_or {P : Program} {w : World} {K : PySem.W.Frag} {mg : Str → Option Value} {base : Heap} {CX : CXT} {k : Nat} {f : Addr} {fd : FuncData} {ps : List Str} {sp sp' sp2 : Sp} (h : FnOk P w K mg base CX k f fd ps sp) (h' : FnOk P w K mg base CX k f fd ps sp')
    (o : ∀ vs H Q E, sp2 vs H Q E → sp vs H Q E ∨ sp' vs H Q E) : FnOk P w K mg base CX k f fd ps sp2 :=
  ⟨fun vs H Q E q => (o vs H Q E q).elim (h.len vs H Q E) (h'.len vs H Q E), fun A outer s H args us vs Q E hr e0 hb r hsp => (o vs H Q E hsp).elim (h.run A outer s H args us vs Q E hr e0 hb r) (h'.run A outer s H args us vs Q E hr e0 hb r)⟩
section
variable {P : Program} {w : World} {K : PySem.W.Frag} {mg : Str → Option Value} {base : Heap} {j k : Nat} {x : Str} {n : Nat}
theorem ClX.mono {W : WtX} (h : ClX P w K mg base j x n W) (l : j ≤ k) : ClX P w K mg base k x n W := by
  obtain ⟨f, fd, ps, h1, h2⟩ := h.ex
  exact ⟨f, fd, ps, h1.mono l, h2⟩
theorem ClX.imp {W W' : WtX} (h : ClX P w K mg base k x n W) (e : ∀ as P PE, W' as P PE → W as P PE) : ClX P w K mg base k x n W' := by
  obtain ⟨f, fd, ps, h1, h2⟩ := h.ex
  exact ⟨f, fd, ps, h1.imp fun vs H Q E ⟨F, T, as, P, PE, a, b, c, d, q⟩ => ⟨F, T, as, P, PE, a, b, c, e _ _ _ d, q⟩, h2⟩
/-- a def that returns -/
theorem clX_of {W : Wt} (h : Cl P w K mg base k x n W) : ClX P w K mg base k x n (fun as P _ => W as P) := by
  obtain ⟨f, fd, ps, h1, h2⟩ := h
  exact ⟨f, fd, ps, (fn_cx h1).imp fun vs H Q E ⟨F, T, as, P, PE, a, b, c, d, q, _⟩ => ⟨F, T, as, P, a, b, c, d, q⟩, h2⟩
end
/-- the readings: what may happen, told by the words -/
def canEX (K : KW) (α : AXx) (W : WX) : TE := fun σ H Q => ∃ B F0 M T env F, R K B F0 M T env σ H F ∧ ∃ P PE, α env P PE ∧ (∀ v d H' F', Stp T H F H' F' → Rp K F' v d → P d → Q v H') ∧ ∀ C H' F', Stp T H F H' F' → PE C → W (.ref C) none σ H'
def canSX (K : KW) (a : ASxx) (W : WX) : TS := fun D σ H => ∃ B F0 M T env F, R K B F0 M T env σ H F ∧ ∃ A PE, Lk K B F0 M A D ∧ (∀ T C env σ H F, R K B F0 M T env σ H F → PE C env → W (.ref C) none σ H) ∧ a A PE env
structure JEX (X : Cx) (e : Expr) (α : AXx) : Prop where ex : ∀ W, Takes X W → PE X e (canEX (kw X) α W)
structure JSX (X : Cx) (s : Stmt) (a : ASxx) : Prop where ex : ∀ W, Takes X W → PS X s (canSX (kw X) a W)
structure JSXs (X : Cx) (s : List Stmt) (a : ASxx) : Prop where ex : ∀ W, Takes X W → PSs X s (canSX (kw X) a W)
def canA (K : KW) (δ : AE → (AE → Prop) → Prop) : TA := fun σ H Q => ∃ B F0 M T env F, R K B F0 M T env σ H F ∧ ∃ P, δ env P ∧ ∀ vs as H' F', Stp T H F H' F' → Paired (Arg K T F') vs as → P as → Q vs H'
section
variable {X : Cx} {e a b c : Expr} {es : List Expr} {pos p : Pos} {x y : Str} {k n : Nat} {s : Stmt} {ss : List Stmt}
theorem JE.toX {α : AEx} (h : JE X e α) : JEX X e (fun env P _ => α env P) := ⟨fun W tk => by
  obtain ⟨t, h1, h2⟩ := h.ex
  exact pe_imp h1 fun σ H Q ⟨B, F0, M, T, env, F, R0, P, PE, p, q, _⟩ => h2 B F0 M T env σ H F R0 P p Q q⟩
theorem JEX.or {α β : AXx} (h : JEX X e α) (g : JEX X e β) : JEX X e (fun env P PE => α env P PE ∨ β env P PE) := ⟨fun W tk => ⟨fun pins s σ H Q I ⟨B, F0, M, T, env, F, R0, P, PE, p, q, r⟩ => p.elim (fun p => (h.ex W tk).run pins s σ H Q I ⟨B, F0, M, T, env, F, R0, P, PE, p, q, r⟩) fun p => (g.ex W tk).run pins s σ H Q I ⟨B, F0, M, T, env, F, R0, P, PE, p, q, r⟩⟩⟩
/-- f(..) -/
theorem jx_call {W : WtX} {δ : AE → (AE → Prop) → Prop} (C : ClX X.prog X.w X.K X.mg X.base k x n W) (hr : Room k X.A) (ha : JA X (e :: es) δ) (hg : Gl X x := by rfl) (hdb : (x == ("__debug__" : Str)) = false := by decide)
    (he : starEach (e :: es) X.env = (false, eval e X.env) :: starEach es X.env := by rfl) (hpl : (backTo pos (starEach es X.env)).any (·.1) = false := by rfl) :
    JEX X (.Call (.Name x p) (e :: es) [] pos) (fun env P PE => δ env fun as => as.length = n ∧ W as P PE) := ⟨fun V tk => by
  obtain ⟨t, h1, h2⟩ := ha.ex
  obtain ⟨f, fd, ps, g1, g2, g3, g4⟩ := C.ex
  refine pe_imp (pe_callS (E := WE V) g1 hr hg g2 g3 g4 (fun σ => passAt tk σ) h1 hdb he hpl) fun σ H Q ⟨B, F0, M, T, env, F, R0, P, PE, p, q, r⟩ => ?_
  refine h2 B F0 M T env σ H F R0 _ p _ fun vs as H1 F1 s1 d1 p1 => ?_
  exact ⟨F1, T, as, P, PE, (R0.step s1).bs, d1, p1.1, p1.2, fun v d H2 F2 s2 => q v d H2 F2 (s1.trans s2), fun C H2 F2 s2 => r C H2 F2 (s1.trans s2)⟩⟩
/-! statements -/
theorem JS.toX {a : ASx} (h : JS X s a) : JSX X s (fun A _ env => a A env) := ⟨fun W tk => by
  obtain ⟨t, h1, h2⟩ := h.ex
  exact ps_imp h1 fun D σ H ⟨B, F0, M, T, env, F, R0, A, PE, l, _, p⟩ => h2 B F0 M T env σ H F R0 A D l p⟩
theorem JSs.toX {a : ASx} (h : JSs X ss a) : JSXs X ss (fun A _ env => a A env) := ⟨fun W tk => by
  obtain ⟨t, h1, h2⟩ := h.ex
  exact pss_imp h1 fun D σ H ⟨B, F0, M, T, env, F, R0, A, PE, l, _, p⟩ => h2 B F0 M T env σ H F R0 A D l p⟩
def aSeqX (u v : ASxx) : ASxx := fun A PE env => u { A with nx := v A PE } PE env
theorem jsx_cons {u v : ASxx} (h : JSX X s u) (g : JSXs X ss v) : JSXs X (s :: ss) (aSeqX u v) := ⟨fun W tk => by
  refine pss_imp (pss_cons (h.ex W tk) (g.ex W tk)) fun D σ H ⟨B, F0, M, T, env, F, R0, A, PE, l, xc, p⟩ => ?_
  exact ⟨B, F0, M, T, env, F, R0, { A with nx := v A PE }, PE, l.seq fun T env σ H F r q => ⟨B, F0, M, T, env, F, r, A, PE, l, xc, q⟩, xc, p⟩⟩
theorem jsx_one {u : ASxx} (h : JSX X s u) : JSXs X [s] u := ⟨fun W tk => pss_one (h.ex W tk)⟩
theorem jsx_nil : JSXs X [] (fun A _ env => A.nx env) := jss_nil.toX
theorem jsx_never : JSXs X ss (fun _ _ _ => False) := jss_never.toX
def aIfX (τ : ATx) (u v : ASxx) : ASxx := fun A PE env => τ env fun k => (k = true → u A PE env) ∧ (k = false → v A PE env)
theorem js_ifX {sa sb : List Stmt} {τ : ATx} {u v : ASxx} (h : JT X c τ) (ha : JSXs X sa u) (hb : JSXs X sb v) : JSX X (.If c sa sb pos) (aIfX τ u v) := ⟨fun W tk => by
  obtain ⟨t, h1, h2⟩ := h.ex
  refine ps_imp (ps_if h1 (ha.ex W tk) (hb.ex W tk)) fun D σ H ⟨B, F0, M, T, env, F, R0, A, PE, l, xc, p⟩ => ?_
  refine h2 B F0 M T env σ H F R0 _ p _ fun k H1 F1 s1 p1 => ?_
  cases k with
  | true => exact ⟨B, F0, M, T, env, F1, R0.step s1, A, PE, l, xc, p1.1 rfl⟩
  | false => exact ⟨B, F0, M, T, env, F1, R0.step s1, A, PE, l, xc, p1.2 rfl⟩⟩
def aExprX (α : AXx) : ASxx := fun A PE env => α env (fun _ => A.nx env) fun C => PE C env
theorem js_exprX {α : AXx} (h : JEX X e α) (hs : swapsWith e none pos.line X.env = pure false := by rfl) : JSX X (.Expr e pos) (aExprX α) := ⟨fun W tk =>
  ps_imp (ps_expr (h.ex W tk) hs) fun D σ H ⟨B, F0, M, T, env, F, R0, A, PE, l, xc, p⟩ =>
    ⟨B, F0, M, T, env, F, R0, _, _, p, fun v d H' F' s1 d1 p1 => l.nx T env σ H' F' (R0.step s1) p1, fun C H' F' s1 p1 => xc T C env σ H' F' (R0.step s1) p1⟩⟩
def aRetX (α : AXx) : ASxx := fun A PE env => α env A.rt fun C => PE C env
theorem js_retX {α : AXx} (h : JEX X e α) : JSX X (.Return (some e) pos) (aRetX α) := ⟨fun W tk =>
  ps_imp (ps_ret (h.ex W tk)) fun D σ H ⟨B, F0, M, T, env, F, R0, A, PE, l, xc, p⟩ =>
    ⟨B, F0, M, T, env, F, R0, _, _, p, fun v d H' F' s1 d1 p1 => l.rt T v d H' F' (R0.step s1).toGd d1 p1, fun C H' F' s1 p1 => xc T C env σ H' F' (R0.step s1) p1⟩⟩
/-- a, b = f(..), where f raises -/
def aAsgX (α : AXx) : ASxx := fun _ PE env => α env (fun _ => False) fun C => PE C env
theorem js_asgX {tg : Expr} {α : AXx} {γ : DD → AE → (AE → Prop) → Prop} (h : JEX X e α) (hg : JG X tg γ) (hs : swapsWithSole [tg] e pos.line X.env = pure false := by rfl) (hw : swappedStores [tg] e X.env = pure none := by rfl)
    (h1 : (assignEach [tg] X.env).map (·.2) = [assign tg X.env] := by rfl) : JSX X (.Assign [tg] e pos) (aAsgX α) := ⟨fun W tk => by
  obtain ⟨g, g1, g2⟩ := hg.ex
  exact ps_imp (ps_asg (h.ex W tk) g1 hs hw h1) fun D σ H ⟨B, F0, M, T, env, F, R0, A, PE, l, xc, p⟩ =>
    ⟨B, F0, M, T, env, F, R0, _, _, p, fun v d H' F' s1 d1 p1 => p1.elim, fun C H' F' s1 p1 => xc T C env σ H' F' (R0.step s1) p1⟩⟩
theorem js_setX (i : Nat) {α : AXx} (nd : X.N.Nodup) (h : JEX X e α) (hi : X.N[i]? = some x := by rfl) (hx : Loc X.env.scope x := by first | exact Or.inl rfl | exact Or.inr rfl) (hs : swapsWith e (some (.Name x p)) pos.line X.env = pure false := by rfl)
    (hf : X.fn x = true ∨ X.env.scope.names.lookup x = some .local := by first | exact .inl rfl | exact .inr rfl | assumption) : JSX X (.Assign [.Name x p] e pos) (aAsgX α) := ⟨fun W tk => by
  exact ps_imp (ps_set nd hi hx (h.ex W tk) hs hf) fun D σ H ⟨B, F0, M, T, env, F, R0, A, PE, l, xc, p⟩ =>
    ⟨B, F0, M, T, env, F, R0, _, _, p, fun v d H' F' s1 d1 p1 => p1.elim, fun C H' F' s1 p1 => xc T C env σ H' F' (R0.step s1) p1⟩⟩
/-- an own exception class, without an __init__ of its own -/
structure ExcF (K : PySem.W.Frag) (mg : Str → Option Value) (x : Str) (C : Addr) : Prop where
  mkI : PySem.W.excIn K C [.type "ValueError", .type "Exception", .type "BaseException", .type "object"] "ValueError.__new__" = true
  g : mg x = some (.ref C)
  kp : PySem.W.keepIn K (.ref C) = true
  sb : PySem.W.subIn K (.ref C) (.type "BaseException") = some true
  ty : PySem.W.typeIn K (.ref C) = some (.type "type")
/-- raise X("..") -/
theorem js_raiseX {C : Addr} {m : Str} {j : Nat} {p2 pos' : Pos} (hc : X.calm = true) (F : ExcF X.K X.mg x C) (hg : Gl X x := by rfl) (hdb : (x == ("__debug__" : Str)) = false := by decide) : JSX X (.Raise (some (.Call (.Name x p) [.Constant (.str m) j p2] [] pos')) none pos) (fun _ PE env => PE C env) := ⟨fun W tk =>
  ps_imp (ps_raise hc tk (pmk_own PySem.F.excBase_ValueError F.mkI F.g F.kp (raises_own F.sb F.ty) hg hdb)) fun D σ H ⟨B, F0, M, T, env, F, R0, A, PE, l, xc, p⟩ => xc T C env σ H F R0 p⟩
end
end Ab
namespace Ab
open PySem PySem.Spec PyProof.Rows L2
theorem r_start {K : KW} {T : Tws K} {H F1 : Hp} {N : List Str} {vs : List V} {as us : AE} (b : Bs T H F1) (pr : Paired (Arg K T F1) vs as) (hus : us = List.replicate (N.length - as.length) Sl.un) : R K H F1 T T (as ++ us) (L2.start N vs) H F1 := by
  have hvl : vs.length = as.length := pairedLen pr
  have at_ : ∀ {i : Nat} {s : Sl}, (as ++ us)[i]? = some s → s ≠ .un → as[i]? = some s := fun {i s} e n => by
    by_cases hi : i < as.length
    · rwa [List.getElem?_append_left hi] at e
    · rw [List.getElem?_append_right (by omega), hus, List.getElem?_replicate] at e
      split at e
      · exact absurd (Option.some.inj e).symm n
      · cases e
  refine ⟨⟨b.sub, Sub.refl _, fun _ _ h => .inl h, fun _ _ h _ => h, fun a t => ⟨(b.tw a t).1, (b.tw a t).2, .inl t⟩, fun _ h => ⟨h, KdLe.refl _⟩⟩, ?_, fun i d e => ?_, fun i ds e => ?_, fun i kk e => ?_, fun i ns e => ?_, fun i j ds es a h1 _ _ _ => ?_, fun i φ e => ?_⟩
  · rw [List.length_append, start_len, hus, List.length_replicate, hvl]
  · obtain ⟨v, hv, ha⟩ := paired_get pr (at_ e (by intro z; cases z))
    cases ha with
    | va h => exact ⟨v, start_get hv, h⟩
  · obtain ⟨v, hv, ha⟩ := paired_get pr (at_ e (by intro z; cases z))
    cases ha
  · obtain ⟨v, hv, ha⟩ := paired_get pr (at_ e (by intro z; cases z))
    cases ha with
    | ty h e => exact ⟨_, h, e, start_get hv⟩
  · obtain ⟨v, hv, ha⟩ := paired_get pr (at_ e (by intro z; cases z))
    cases ha with
    | sc h => exact ⟨_, start_get hv, h⟩
  · obtain ⟨v, hv, ha⟩ := paired_get pr (at_ h1 (by intro z; cases z))
    cases ha
  · obtain ⟨v, hv, ha⟩ := paired_get pr (at_ e (by intro z; cases z))
    cases ha
/-- a def that returns or raises keeps its promise -/
theorem def_okX {P : Program} {w : World} {K : PySem.W.Frag} {mg : Str → Option Value} {base : Heap} {k : Nat} {x qual : Str} {st : Stmt} {f : Addr} {fd : FuncData} {N ps : List Str} {W : WtX} (us : AE) (F : Fun K x qual st f fd) (S : FnScope N ps (defScope st))
    (gm : mg x = some (.ref f)) (hb : Binds K fd ps [])
    (hbody : ∃ a : ASxx, (∀ (cdv : Value) (A : Around) (outer : List Env) (s : Shared) (H : Hp) (E : XK), Room k (A.deeper (envOfC qual (defScope st) s.heap.objs.size f cdv)) → JSXs (cxOf (L2.CX P w) P w K mg base N qual (defScope st) f cdv A outer s H E) (defBody st) a) ∧
      ∀ as Q PE, as.length = ps.length → W as Q PE → a { nx := fun _ => Q .none, rt := Q } (fun C _ => PE C) (as ++ us))
    (hus : us = List.replicate (N.length - ps.length) Sl.un := by rfl) : ClX P w K mg base (k + 1) x ps.length W := by
  refine ⟨f, fd, ps, F.okX S (fun vs H Q E h => spX_len vs H Q E h) (fun cdv A outer s H vs Q E hr h => ?_), gm, F.kp, hb⟩
  obtain ⟨a, hb1, hb2⟩ := hbody
  obtain ⟨F1, T, as, Pd, PE, b, pr, hl, hw, q, r⟩ := h
  have st : ∀ {T' : Tws ⟨K, P, w⟩} {H' F' : Hp}, Gd H F1 T T' H' F' → Stp T H F1 H' F' := fun {T' H' F'} g => ⟨g.sub, g.f0, g.new, g.keep, fun a t => Tws.le_ok (g.tw a (g.mt a t).1).2.1 (g.mt a t).2⟩
  refine ⟨_, (hb1 cdv A outer s H E hr).ex _ (takes_of rfl rfl rfl rfl), H, F1, T, T, as ++ us, F1, r_start b pr (by rw [hus, hl]), _, _, ?_, ?_, hb2 as Pd PE hl hw⟩
  · exact ⟨fun T' env σ H' F' r p => q .non .none H' F' (st r.toGd) .non p, fun T' v d H' F' g r p => q v d H' F' (st g) r p, fun _ _ _ _ _ _ z => z.elim, fun _ _ _ _ _ _ z => z.elim, fun _ _ _ _ _ _ _ _ z => z.elim, fun _ _ _ _ _ _ _ _ _ z => z.elim⟩
  · exact fun T' C env σ H' F' g p => r C H' F' (st g.toGd) p
section
variable {X : Cx} {e a b c elt tg iter : Expr} {es : List Expr} {pos p : Pos} {x y : Str} {k n : Nat} {s : Stmt} {ss : List Stmt}
/-- [.. for .. in f(..)], where f raises -/
theorem jx_lc {scope : Scope} {own : List (Str × Nat)} {α : AXx} (hc : X.calm = true) (nd : X.N.Nodup) (h : JEX X iter α) (ok : BlkOk X.N X.env.scope scope own) (hs : ∀ x, foldedSetIterable iter X.env x = pure x := by intro _; rfl) :
    JEX X (.ListComp elt [⟨tg, iter, [], 0⟩] scope pos) (fun env _ PE => α env (fun _ => False) PE) := ⟨fun W tk => by
  refine pe_imp (pe_lc (g := fun _ _ _ _ => False) (te := fun _ _ _ => False) hc nd (pi_list (h.ex W tk)) ok (fun _ _ _ _ _ => ⟨fun _ _ _ _ _ _ _ _ _ z => z.elim⟩) (fun _ _ _ _ _ => pts_nil) (fun _ _ _ _ _ => ⟨fun _ _ _ _ _ _ z => z.elim⟩) hs) fun σ H Q ⟨B, F0, M, T, env, F, R0, P, PE, p, q, r⟩ => ?_
  exact ⟨B, F0, M, T, env, F, R0, _, PE, p, fun _ _ _ _ _ _ z => z.elim, r⟩⟩
end
end Ab
namespace Ab
open PySem PySem.Spec PyProof.Rows L2
section
variable {X : Cx} {fe e ie : Expr} {es es0 : List Expr} {pos p lp sp0 : Pos} {x : Str} {k n : Nat}
theorem pe_callF {CX : CXT} {E : L2.St → XK} {tf : TE} {t : TA} {S : Addr → Sp → Prop} (hf : PE X fe tf) (A : ∀ f sp, S f sp → ∃ fd ps, FnOk X.prog X.w X.K X.mg X.base CX k f fd ps sp ∧ PySem.W.keepIn X.K (.ref f) = true ∧ Binds X.K fd ps []) (hr : Room k X.A)
    (hx : ∀ σ, PassesAt CX X σ (E σ)) (ha : PA X (e :: es) t)
    (ht : eval (.Call fe (e :: es) [] pos) X.env = (do callWith pos (← eval fe X.env) [] (backTo pos (starEach (e :: es) X.env)) (backToKw pos (keywordEach [] X.env))) := by rfl)
    (he : starEach (e :: es) X.env = (false, eval e X.env) :: starEach es X.env := by rfl) (hpl : (backTo pos (starEach es X.env)).any (·.1) = false := by rfl) :
    PE X (.Call fe (e :: es) [] pos) (fun σ H Q => tf σ H fun y H1 => ∃ f sp, y = .ref f ∧ S f sp ∧ t σ H1 fun vs H2 => sp vs H2 Q (E σ)) := by
  refine ⟨fun pins s σ H Q I h => ?_⟩
  refine Call_ (thn (hf.run pins s σ H _ I h) fun u s1 ⟨y, H1, I1, ry, f, sp, ey, hS, q⟩ => ?_) ht
  subst ey
  obtain rfl : u = Value.ref f := ry
  obtain ⟨fd, ps, F, hk, hb⟩ := A f sp hS
  exact PySem.W.callWith_K (h₀ := X.base) I1.ok.mod.kin hk (thn (ha.run pos pins s1 σ H1 _ I1 q) fun us s2 ⟨vs, H2, I2, r, q2⟩ => ⟨I2.kIn, run_fnS F hr hb (hx σ) I2 r q2⟩) he hpl
/-- names of defs, each with its promise -/
inductive Fns (X : Cx) (k n : Nat) : List Expr → List WtX → Prop
  | nil : Fns X k n [] []
  | cons {x : Str} {p : Pos} {W : WtX} {es : List Expr} {ws : List WtX} : ClX X.prog X.w X.K X.mg X.base k x n W → Gl X x → (x == ("__debug__" : Str)) = false → starEach (.Name x p :: es) X.env = (false, eval (.Name x p) X.env) :: starEach es X.env → Fns X k n es ws → Fns X k n (.Name x p :: es) (W :: ws)
theorem Fns.pa {ws : List WtX} (h : Fns X k n es0 ws) : ∃ fs : List Addr, fs.length = ws.length ∧ PA X es0 (fun _ H Q => Q (fs.map V.ref) H) ∧
    ∀ (i : Nat) f W, fs[i]? = some f → ws[i]? = some W → ∃ fd ps, FnOk X.prog X.w X.K X.mg X.base (L2.CX X.prog X.w) k f fd ps (spX (kw X) n W) ∧ PySem.W.keepIn X.K (.ref f) = true ∧ Binds X.K fd ps [] := by
  induction h with
  | nil => exact ⟨[], rfl, pa_imp pa_nil fun σ H Q q => q, fun i f W e _ => by simp at e⟩
  | cons c hg hd hs _ ih =>
    obtain ⟨fs, l, hp, hq⟩ := ih
    obtain ⟨f, fd, ps, g1, g2, g3, g4⟩ := c.ex
    refine ⟨f :: fs, by rw [List.length_cons, List.length_cons, l], pa_imp (pa_cons (pe_glob hg g2 (v := .ref f) rfl hd) hp hs) fun σ H Q q => q, fun i f' W e e2 => ?_⟩
    cases i with
    | zero =>
      cases e; cases e2
      exact ⟨fd, ps, g1, g3, g4⟩
    | succ i => exact hq i f' W (by simpa using e) (by simpa using e2)
def aCallL (n : Nat) (ws : List WtX) (α : AEx) (δ : AE → (AE → Prop) → Prop) : AXx := fun env P PE => α env fun d => ∃ (i : Nat) (W : WtX), d = .int (i : Int) ∧ ws[i]? = some W ∧ δ env fun as => as.length = n ∧ W as P PE
/-- [f, g, ..][i](..) -/
theorem jx_callL {ws : List WtX} {α : AEx} {δ : AE → (AE → Prop) → Prop} (hl : Fns X k n es0 ws) (hz : ws.length < 1000) (hr : Room k X.A) (hi : JE X ie α) (hp : PlainIx ie) (ha : JA X (e :: es) δ)
    (ht : eval (.Call (.Subscript (.List es0 lp) ie sp0) (e :: es) [] pos) X.env = (do callWith pos (← eval (.Subscript (.List es0 lp) ie sp0) X.env) [] (backTo pos (starEach (e :: es) X.env)) (backToKw pos (keywordEach [] X.env))) := by rfl)
    (he : starEach (e :: es) X.env = (false, eval e X.env) :: starEach es X.env := by rfl) (hpl : (backTo pos (starEach es X.env)).any (·.1) = false := by rfl) :
    JEX X (.Call (.Subscript (.List es0 lp) ie sp0) (e :: es) [] pos) (aCallL n ws α δ) := ⟨fun W0 tk => by
  obtain ⟨fs, lfs, hpa, hfs⟩ := hl.pa
  obtain ⟨t1, i1, i2⟩ := hi.ex
  obtain ⟨t, h1, h2⟩ := ha.ex
  refine pe_imp (pe_callF (S := fun f sp => ∃ (i : Nat) (W : WtX), fs[i]? = some f ∧ ws[i]? = some W ∧ sp = spX (kw X) n W) (E := WE W0) (pe_ix ix_list (pe_lst hpa) i1 hp) (fun f sp ⟨i, W, e1, e2, e3⟩ => ?_) hr (fun σ => passAt tk σ) h1 ht he hpl) fun σ H Q ⟨B, F0, M, T, env, F, R0, P, PE, p, q, r⟩ => ?_
  · subst e3
    obtain ⟨fd, ps, g1, g2, g3⟩ := hfs i f W e1 e2
    exact ⟨fd, ps, g1, g2, g3⟩
  · refine ⟨by rw [List.length_map, lfs, sizeLine_eq]; omega, fun a ea => ?_⟩
    have b0 := R0.bs
    have s1 : Stp T H F (upd H a (.lst (fs.map V.ref))) F := Stp.al0 b0 ea
    have nT : ¬ T a := fun t => by
      obtain ⟨o, z⟩ := Tws.has (b0.tw a t).2
      rw [ea] at z; cases z
    refine i2 B F0 M T env σ _ F (R0.step s1) _ p _ fun v d H1 F1 s2 d1 p1 => ?_
    obtain ⟨i, W, rfl, e2, p1⟩ := p1
    cases d1
    have hf : ∃ f, fs[i]? = some f := by
      have : i < ws.length := (List.getElem?_eq_some_iff.mp e2).1
      exact ⟨_, List.getElem?_eq_getElem (by omega)⟩
    obtain ⟨f, hf⟩ := hf
    refine ⟨a, _, _, .ref f, rfl, rfl, .inl (.inl (s2.keep a _ upd_same nT)), atI_nat (by rw [List.getElem?_map, hf]; rfl), f, _, rfl, ⟨i, W, hf, e2, rfl⟩, ?_⟩
    have s12 := s1.trans s2
    refine h2 B F0 M T env σ H1 F1 (R0.step s12) _ p1 _ fun vs as H2 F2 s3 d3 p3 => ?_
    have s13 := s12.trans s3
    exact ⟨F2, T, as, P, PE, (R0.step s13).bs, d3, p3.1, p3.2, fun v d H3 F3 s4 => q v d H3 F3 (s13.trans s4), fun C H3 F3 s4 => r C H3 F3 (s13.trans s4)⟩⟩
end
end Ab

/-! things made of several objects: lists lent for one call -/
namespace Ab
open PySem PySem.Spec PyProof.Rows L2
/-- a def of the text that hands a new list back -/
structure ClO (P : Program) (w : World) (K : PySem.W.Frag) (mg : Str → Option Value) (base : Heap) (k : Nat) (x : Str) (n : Nat) (W : WtO) : Prop where
  ex : ∃ (f : Addr) (fd : FuncData) (ps : List Str), FnOk P w K mg base CX0 k f fd ps (spAO ⟨K, P, w⟩ n W) ∧ mg x = some (.ref f) ∧ PySem.W.keepIn K (.ref f) = true ∧ Binds K fd ps []
theorem ClO.mono {P : Program} {w : World} {K : PySem.W.Frag} {mg : Str → Option Value} {base : Heap} {k j : Nat} {x : Str} {n : Nat} {W : WtO} (h : ClO P w K mg base k x n W) (l : k ≤ j) : ClO P w K mg base j x n W := by
  obtain ⟨f, fd, ps, h1, h2⟩ := h.ex
  exact ⟨f, fd, ps, h1.mono l, h2⟩
theorem ClO.cl {P : Program} {w : World} {K : PySem.W.Frag} {mg : Str → Option Value} {base : Heap} {k : Nat} {x : Str} {n : Nat} {W : WtO} {W' : Wt} (h : ClO P w K mg base k x n W) (e : ∀ as P, W' as P → W as fun ds => P (.list ds)) : Cl P w K mg base k x n W' := by
  obtain ⟨f, fd, ps, h1, h2⟩ := h.ex
  exact ⟨f, fd, ps, h1.imp fun vs H Q E ⟨F, T, as, P, a, b, c, d, q⟩ => spAO_spA (E := E) ⟨F, T, as, P, a, b, c, e _ _ d, q⟩, h2⟩
theorem def_okO {P : Program} {w : World} {K : PySem.W.Frag} {mg : Str → Option Value} {base : Heap} {k : Nat} {x qual : Str} {st : Stmt} {f : Addr} {fd : FuncData} {N ps : List Str} {W : WtO} (us : AE) (F : Fun K x qual st f fd) (S : FnScope N ps (defScope st))
    (gm : mg x = some (.ref f)) (hb : Binds K fd ps [])
    (hbody : ∃ a : ASx, (∀ (cdv : Value) (A : Around) (outer : List Env) (s : Shared) (H : Hp) (E : XK), Room k (A.deeper (envOfC qual (defScope st) s.heap.objs.size f cdv)) → JSs (cxOf CX0 P w K mg base N qual (defScope st) f cdv A outer s H E).nox (defBody st) a) ∧
      ∀ as Q, as.length = ps.length → W as Q → a { nx := fun _ => False, rt := fun _ => False, rtO := Q } (as ++ us))
    (hus : us = List.replicate (N.length - ps.length) Sl.un := by rfl) : ClO P w K mg base (k + 1) x ps.length W :=
  ⟨f, fd, ps, def_fnO us F S hbody hus, gm, F.kp, hb⟩
/-! some lists settled for one call -/
def lendL (H F : Hp) (ls : List Addr) : Hp := fun x => if x ∈ ls then H x else F x
def offL (F : Hp) (ls : List Addr) : Hp := fun x => if x ∈ ls then none else F x
structure Lent {K : KW} (T : Tws K) (H F : Hp) (ls : List Addr) : Prop where
  at_ : ∀ x ∈ ls, ∃ xs, H x = some (.lst xs)
  out : ∀ x ∈ ls, F x = none ∧ ¬ T x
section
variable {K : KW} {T : Tws K} {H F H' F' : Hp} {ls : List Addr}
theorem lend_sub (l : Lent T H F ls) : Sub F (lendL H F ls) := fun a o e => by
  unfold lendL
  by_cases q : a ∈ ls
  · rw [(l.out a q).1] at e; cases e
  · rw [if_neg q]; exact e
theorem lend_bs (b : Bs T H F) (l : Lent T H F ls) : Bs T H (lendL H F ls) := by
  refine ⟨fun a o e => ?_, fun a t => ⟨?_, (b.tw a t).2⟩⟩
  · unfold lendL at e
    by_cases q : a ∈ ls
    · rw [if_pos q] at e; exact e
    · rw [if_neg q] at e; exact b.sub a o e
  · unfold lendL
    rw [if_neg fun q => (l.out a q).2 t]
    exact (b.tw a t).1
theorem lend_back (l : Lent T H F ls) (s : Stp T H (lendL H F ls) H' F') : Stp T H F H' (offL F' ls) := by
  refine ⟨fun a o e => ?_, fun a o e => ?_, fun a o e => ?_, s.keep, s.tc⟩
  · unfold offL at e
    by_cases q : a ∈ ls
    · rw [if_pos q] at e; cases e
    · rw [if_neg q] at e; exact s.sub a o e
  · unfold offL
    by_cases q : a ∈ ls
    · rw [(l.out a q).1] at e; cases e
    · rw [if_neg q]; exact s.ext a o (lend_sub l a o e)
  · unfold offL at e
    by_cases q : a ∈ ls
    · rw [if_pos q] at e; cases e
    · rw [if_neg q] at e
      rcases s.new a o e with z | z
      · unfold lendL at z
        rw [if_neg q] at z
        exact .inl z
      · exact .inr z
/-- the lists stand as they stood -/
theorem lend_kept (l : Lent T H F ls) (s : Stp T H (lendL H F ls) H' F') : ∀ x ∈ ls, H' x = H x ∧ F' x = H x := fun x hx => by
  obtain ⟨xs, e⟩ := l.at_ x hx
  have e1 : lendL H F ls x = some (.lst xs) := by unfold lendL; rw [if_pos hx]; exact e
  exact ⟨by rw [e]; exact s.keep x _ e (l.out x hx).2, by rw [e]; exact s.ext x _ e1⟩
mutual
theorem Rp.off (hl : ∀ x ∈ ls, ∃ xs, F' x = some (.lst xs)) : ∀ {v : V} (d : PyData), keyD d = true → Rp K F' v d → Rp K (offL F' ls) v d
  | _, .none, _, h => by cases h; exact .non
  | _, .bool b, _, h => by cases h; exact .bl b
  | _, .int i, _, h => by cases h; exact .int i
  | _, .str x, _, h => by cases h; exact .str x
  | _, .list ds, k, h => by simp [keyD] at k
  | _, .tuple ds, k, h => by
    cases h with
    | tup a b =>
      refine .tup ?_ (RpAll.off hl ds (by simpa [keyD] using k) b)
      have ne : ∀ {c : Addr} {u : HO}, F' c = some u → (∀ xs, u ≠ .lst xs) → offL F' ls c = some u := fun {c u} hc nm => by
        unfold offL
        have : c ∉ ls := fun z => by
          obtain ⟨xs, e⟩ := hl c z
          rw [hc] at e
          exact nm xs (Option.some.inj e)
        rw [if_neg this]; exact hc
      rcases a with (a | ⟨u, a⟩) | a
      · exact .inl (.inl (ne a fun xs z => by cases z))
      · exact .inl (.inr ⟨u, ne a fun xs z => by cases z⟩)
      · exact .inr a
  | _, .dict _, k, h => by simp [keyD] at k
theorem RpAll.off (hl : ∀ x ∈ ls, ∃ xs, F' x = some (.lst xs)) : ∀ {vs : List V} (ds : List PyData), keyDs ds = true → RpAll K F' vs ds → RpAll K (offL F' ls) vs ds
  | _, [], _, h => by cases h; exact .nil
  | _, d :: ds, k, h => by
    rw [keyDs, Bool.and_eq_true] at k
    cases h with | cons a b => exact .cons (Rp.off hl d k.1 a) (RpAll.off hl ds k.2 b)
end
/-- a new list of atoms and tuples of such -/
theorem Rp.offNew (hl : ∀ x ∈ ls, ∃ xs, F' x = some (.lst xs)) {r : Addr} {ds : List DD} (hr : r ∉ ls) (k : keyDs ds = true) (h : Rp K F' (.ref r) (.list ds)) : Rp K (offL F' ls) (.ref r) (.list ds) := by
  cases h with
  | lst a b => exact .lst (by unfold offL; rw [if_neg hr]; exact a) (RpAll.off hl ds k b)
end
end Ab
namespace Ab
open PySem PySem.Spec PyProof.Rows L2
/-! a def whose first argument is a thing made of several objects, which it only reads -/
abbrev WtL := AE → (DD → Prop) → (List DD → Prop) → Prop
def spSelf (K : KW) (n : Nat) (W : WtL) : Sp := fun vs H Q _ => ∃ (F : Hp) (T : Tws K) (φ : LnT) (v : V) (vs' : List V) (as : AE) (P : DD → Prop) (PO : List DD → Prop), vs = v :: vs' ∧ Bs T H F ∧ φ.own = false ∧ φ.at_ K H F v ∧ (∀ x ∈ φ.A, (∃ o, H x = some o) ∧ F x = none ∧ ¬ T x) ∧ Paired (Arg K T F) vs' as ∧ as.length + 1 = n ∧ W (.ln φ :: as) P PO ∧
  (∀ v d H' F', Stp T H F H' F' → Rp K F' v d → P d → Q v H') ∧ ∀ a ds H' F', Stp T H F H' F' → Rp K F' (.ref a) (.list ds) → H a = none → PO ds → Q (.ref a) H'
theorem spSelf_len {K : KW} {n : Nat} {W : WtL} : ∀ vs H Q E, spSelf K n W vs H Q E → vs.length = n := fun vs H Q E h => by
  obtain ⟨F, T, φ, v, vs', as, P, PO, rfl, _, _, _, _, h2, h3, _⟩ := h
  rw [← h3, List.length_cons, pairedLen h2]
theorem def_fnL {P : Program} {w : World} {K : PySem.W.Frag} {mg : Str → Option Value} {base : Heap} {k : Nat} {x qual : Str} {st : Stmt} {f : Addr} {fd : FuncData} {N ps : List Str} {W : WtL} (us : AE) (F : Fun K x qual st f fd) (S : FnScope N ps (defScope st))
    (hbody : ∃ a : ASx, (∀ (cdv : Value) (A : Around) (outer : List Env) (s : Shared) (H : Hp) (E : XK), Room k (A.deeper (envOfC qual (defScope st) s.heap.objs.size f cdv)) → JSs (cxOf CX0 P w K mg base N qual (defScope st) f cdv A outer s H E).nox (defBody st) a) ∧
      ∀ as Q QO, as.length = ps.length → W as Q QO → a { nx := fun _ => Q .none, rt := Q, rtO := QO } (as ++ us))
    (hus : us = List.replicate (N.length - ps.length) Sl.un := by rfl) : FnOk P w K mg base CX0 (k + 1) f fd ps (spSelf ⟨K, P, w⟩ ps.length W) := by
  refine F.ok S (fun vs H Q E h => spSelf_len vs H Q E h) (fun cdv A outer s H vs Q E hr h => ?_)
  obtain ⟨a, hb1, hb2⟩ := hbody
  obtain ⟨F1, T, φ, v0, vs', as, Pd, PO, rfl, b, hown, hat, hA, pr, hl, hw, q, qO⟩ := h
  obtain ⟨t, h1, h2⟩ := (hb1 cdv A outer s H E hr).ex
  have hvl : vs'.length = as.length := pairedLen pr
  refine ⟨t, h1, h2 H F1 T T ((.ln φ :: as) ++ us) (L2.start N (v0 :: vs')) H F1 ?_ _ _ ?_ (hb2 (.ln φ :: as) Pd PO hl hw)⟩
  · have at_ : ∀ {i : Nat} {s : Sl}, ((.ln φ :: as) ++ us)[i]? = some s → s ≠ .un → (i = 0 ∧ s = .ln φ) ∨ ∃ j, i = j + 1 ∧ as[j]? = some s := fun {i s} e n => by
      by_cases hi : i < (Sl.ln φ :: as).length
      · rw [List.getElem?_append_left hi] at e
        cases i with
        | zero => exact .inl ⟨rfl, (Option.some.inj e).symm⟩
        | succ j => exact .inr ⟨j, rfl, by simpa using e⟩
      · rw [List.getElem?_append_right (by omega), hus, List.getElem?_replicate] at e
        split at e
        · exact absurd (Option.some.inj e).symm n
        · cases e
    have arg : ∀ {j : Nat} {s : Sl}, as[j]? = some s → ∃ v, (L2.start N (v0 :: vs'))[j + 1]? = some (some v) ∧ Arg ⟨K, P, w⟩ T F1 v s := fun {j s} e => by
      obtain ⟨v, hv, ha⟩ := paired_get pr e
      exact ⟨v, start_get (i := j + 1) (by simpa using hv), ha⟩
    refine ⟨⟨b.sub, Sub.refl _, fun _ _ h => .inl h, fun _ _ h _ => h, fun a t => ⟨(b.tw a t).1, (b.tw a t).2, .inl t⟩, fun _ h => ⟨h, KdLe.refl _⟩⟩, ?_, fun i d e => ?_, fun i ds e => ?_, fun i kk e => ?_, fun i ns e => ?_, fun i j ds es a h1 _ _ _ => ?_, fun i ψ e => ?_⟩
    · rw [List.length_append, start_len, hus, List.length_replicate, List.length_cons, List.length_cons, hvl]
      omega
    · rcases at_ e (by intro z; cases z) with ⟨_, z⟩ | ⟨j, rfl, e2⟩
      · cases z
      · obtain ⟨v, hv, ha⟩ := arg e2
        cases ha with
        | va h => exact ⟨v, hv, h⟩
    · rcases at_ e (by intro z; cases z) with ⟨_, z⟩ | ⟨j, rfl, e2⟩
      · cases z
      · obtain ⟨v, hv, ha⟩ := arg e2
        cases ha
    · rcases at_ e (by intro z; cases z) with ⟨_, z⟩ | ⟨j, rfl, e2⟩
      · cases z
      · obtain ⟨v, hv, ha⟩ := arg e2
        cases ha with
        | ty h e => exact ⟨_, h, e, hv⟩
    · rcases at_ e (by intro z; cases z) with ⟨_, z⟩ | ⟨j, rfl, e2⟩
      · cases z
      · obtain ⟨v, hv, ha⟩ := arg e2
        cases ha with
        | sc h => exact ⟨_, hv, h⟩
    · rcases at_ h1 (by intro z; cases z) with ⟨_, z⟩ | ⟨j, rfl, e2⟩
      · cases z
      · obtain ⟨v, hv, ha⟩ := arg e2
        cases ha
    · rcases at_ e (by intro z; cases z) with ⟨rfl, z⟩ | ⟨j, rfl, e2⟩
      · cases z
        refine ⟨⟨v0, start_get (i := 0) rfl, hat⟩, fun x hx => ?_⟩
        obtain ⟨k1, k2, k3⟩ := hA x hx
        refine ⟨k1, k2, fun z => (by rw [hown] at z; cases z), k3, fun j g e => ?_⟩
        rcases at_ e (by intro z; cases z) with ⟨_, z⟩ | ⟨j, rfl, e2⟩
        · cases z
        · obtain ⟨v, hv, ha⟩ := arg e2
          cases ha
      · obtain ⟨v, hv, ha⟩ := arg e2
        cases ha
  · have st : ∀ {T' : Tws ⟨K, P, w⟩} {H' F' : Hp}, Gd H F1 T T' H' F' → Stp T H F1 H' F' := fun {T' H' F'} g => ⟨g.sub, g.f0, g.new, g.keep, fun a t => Tws.le_ok (g.tw a (g.mt a t).1).2.1 (g.mt a t).2⟩
    exact ⟨fun T' env σ H' F' r p => q .non .none H' F' (st r.toGd) .non p, fun T' v d H' F' g r p => q v d H' F' (st g) r p, fun _ _ _ _ _ _ z => z.elim, fun _ _ _ _ _ _ z => z.elim, fun T' a ds H' F' g r n p => qO a ds H' F' (st g) r n p, fun _ _ _ _ _ _ _ _ _ z => z.elim⟩
end Ab
namespace Ab
open PySem PySem.Spec PyProof.Rows L2
section
variable {X : Cx} {e a b c : Expr} {es : List Expr} {pos p : Pos} {x f : Str} {k n : Nat}
/-- a field of it that is a datum -/
def FldIs (φ : LnT) (f : Str) (d : DD) : Prop := ∀ (K : KW) (H F : Hp) (v : V), φ.at_ K H F v → ∃ (a C dx : Addr) (fs : List (Str × V)) (u : V), v = .ref a ∧ H a = some (.ins C dx fs) ∧ Cls K C ∧ NoAttr K C f ∧ fs.lookup f = some u ∧ Rp K F u d
def aFld (i : Nat) (f : Str) : AEx := fun env P => ∃ φ d, env[i]? = some (.ln φ) ∧ FldIs φ f d ∧ P d
theorem je_fld (i : Nat) {px : Pos} (hN : X.N[i]? = some x := by rfl) (hv : Vis X.env.scope x := by first | exact Or.inl rfl | exact Or.inr (Or.inl rfl) | exact Or.inr (Or.inr rfl)) (hd : (x == ("__debug__" : Str)) = false := by decide)
    (hcd : (x == ("__classdict__" : Str)) = false := by decide) (hb : attributeBase (.Name x px) f X.env (eval (.Name x px) X.env) = eval (.Name x px) X.env := by rfl) : JE X (.Attribute (.Name x px) f pos) (aFld i f) := by
  refine ⟨_, pe_fld (pe_var hN hv hd hcd) hb, fun B F0 M T env σ H F R0 P p Q q => ?_⟩
  obtain ⟨φ, d, p1, p2, p3⟩ := p
  obtain ⟨⟨v, h1, h2⟩, _⟩ := R0.ln i φ p1
  obtain ⟨a, C, dx, fs, u, rfl, g1, g2, g3, g4, g5⟩ := p2 _ H F v h2
  exact ⟨_, h1, a, C, dx, fs, u, rfl, g1, g2, g3, g4, q u d H F (.refl R0.bs) g5 p3⟩
/-- a call that hands a new list back -/
def aCallO (n : Nat) (W : WtO) (δ : AE → (AE → Prop) → Prop) : AOx := fun env P => δ env fun as => as.length = n ∧ W as P
theorem sim_callO {K : KW} {W : WtO} {δ : AE → (AE → Prop) → Prop} {ta : TA} (h : SimA K ta δ) {B F0 : Hp} {M T : Tws K} {env : AE} {σ : L2.St} {H F : Hp} (R0 : R K B F0 M T env σ H F) {P : List DD → Prop} (p : aCallO n W δ env P) {Q : VK} (q : ∀ r ds H' F', Stp T H F H' F' → Rp K F' (.ref r) (.list ds) → H r = none → P ds → Q (.ref r) H') : tCall (spAO K n W) [] E0 ta σ H Q :=
  h B F0 M T env σ H F R0 _ p _ fun vs as H1 F1 s1 d1 p1 => by
    rw [List.append_nil]
    exact ⟨F1, T, as, P, (R0.step s1).bs, d1, p1.1, p1.2, fun r ds H2 F2 s2 d2 n2 p2 => q r ds H2 F2 (s1.trans s2) d2 (s1.dom n2) p2⟩
theorem j_callO {W : WtO} {δ : AE → (AE → Prop) → Prop} (C : ClO X.prog X.w X.K X.mg X.base k x n W) (hr : Room k X.A) (ha : JA X (e :: es) δ) (hg : Gl X x := by rfl) (hdb : (x == ("__debug__" : Str)) = false := by decide)
    (he : starEach (e :: es) X.env = (false, eval e X.env) :: starEach es X.env := by rfl) (hpl : (backTo pos (starEach es X.env)).any (·.1) = false := by rfl) : JE X (.Call (.Name x p) (e :: es) [] pos) (aO (aCallO n W δ)) := by
  obtain ⟨t, h1, h2⟩ := ha.ex
  obtain ⟨f, fd, ps, g1, g2, g3, g4⟩ := C.ex
  exact ⟨_, pe_call g1 hr hg g2 g3 g4 .nil pass0 h1 hdb he hpl, fun B F0 M T env σ H F R0 P p Q q => sim_callO h2 R0 p fun r ds H' F' s d _ p' => q _ _ H' F' s d p'⟩
/-- return f(..), a new list -/
theorem js_retCallO {W : WtO} {δ : AE → (AE → Prop) → Prop} {rp : Pos} (C : ClO X.prog X.w X.K X.mg X.base k x n W) (hr : Room k X.A) (ha : JA X (e :: es) δ) (hg : Gl X x := by rfl) (hdb : (x == ("__debug__" : Str)) = false := by decide)
    (he : starEach (e :: es) X.env = (false, eval e X.env) :: starEach es X.env := by rfl) (hpl : (backTo pos (starEach es X.env)).any (·.1) = false := by rfl) : JS X (.Return (some (.Call (.Name x p) (e :: es) [] pos)) rp) (aRetO (aCallO n W δ)) := by
  obtain ⟨t, h1, h2⟩ := ha.ex
  obtain ⟨f, fd, ps, g1, g2, g3, g4⟩ := C.ex
  exact ⟨_, ps_ret (pe_call g1 hr hg g2 g3 g4 .nil pass0 h1 hdb he hpl), fun B F0 M T env σ H F R0 A D l p => sim_callO h2 R0 p fun r ds H' F' s d nw p' => l.rtO T r ds H' F' (R0.step s).toGd d (R0.toGd.dom nw) p'⟩
end
end Ab
namespace Ab
open PySem PySem.Spec PyProof.Rows L2
/-- what a method that only reads is told: the lists of the thing are settled for it -/
structure RdOk (C : Addr) (m : Str) (φ ψ : LnT) (ls : List Addr) : Prop where
  own : ψ.own = false
  sub : ∀ x ∈ ls, x ∈ φ.A
  sub2 : ∀ x ∈ ψ.A, x ∈ φ.A ∧ x ∉ ls
  ins : ∀ (K : KW) (H F : Hp) (v : V), φ.at_ K H F v → ∃ a dx fs, v = .ref a ∧ H a = some (.ins C dx fs) ∧ fs.lookup m = none
  lst : ∀ (K : KW) (H F : Hp) (v : V), φ.at_ K H F v → ∀ x ∈ ls, ∃ xs, H x = some (.lst xs)
  at_ : ∀ (K : KW) (H F : Hp) (v : V), φ.at_ K H F v → (∀ x ∈ ls, F x = none) → ψ.at_ K H (lendL H F ls) v
section
variable {X : Cx} {pos p apos : Pos} {x m : Str} {k : Nat}
def aMeth0 (i : Nat) (C : Addr) (m : Str) (W : WtL) : AEx := fun env P => ∃ φ ψ ls, env[i]? = some (.ln φ) ∧ RdOk C m φ ψ ls ∧ W [.ln ψ] (fun d => keyD d = true ∧ P d) fun ds => keyDs ds = true ∧ P (.list ds)
/-- x.m(), x made of several objects, m a method that only reads -/
theorem j_meth0 (i : Nat) {C f : Addr} {fd : FuncData} {ps : List Str} {W : WtL} {pl : Sem Bool} (hC : Cls X.K C) (hM : Meth X.K C m f) (hF : FnOk X.prog X.w X.K X.mg X.base CX0 k f fd ps (spSelf (kw X) 1 W)) (hr : Room k X.A) (hB : Binds X.K fd ps [])
    (hN : X.N[i]? = some x := by rfl) (hv : Vis X.env.scope x := by first | exact Or.inl rfl | exact Or.inr (Or.inl rfl) | exact Or.inr (Or.inr rfl)) (hd : (x == ("__debug__" : Str)) = false := by decide)
    (hcd : (x == ("__classdict__" : Str)) = false := by decide)
    (he : eval (.Call (.Attribute (.Name x p) m apos) [] [] pos) X.env = (do
      let ov ← eval (.Name x p) X.env
      standAt apos.atName
      let y ← holding [ov] (getMethod ov m pl)
      match y with
      | (f, first) => callWith pos f first (backTo pos (starEach [] X.env)) (backToKw pos (keywordEach [] X.env))) := by rfl) : JE X (.Call (.Attribute (.Name x p) m apos) [] [] pos) (aMeth0 i C m W) := by
  refine ⟨_, pe_meth0 (pe_var hN hv hd hcd) hC hM hF hr hB .nil pass0 he, fun B F0 M T env σ H F R0 P p Q q => ?_⟩
  obtain ⟨φ, ψ, ls, p1, ok, p2⟩ := p
  obtain ⟨⟨v, h1, h2⟩, h3⟩ := R0.ln i φ p1
  obtain ⟨a, dx, fs, rfl, g1, g2⟩ := ok.ins _ H F v h2
  have fn : ∀ y ∈ ls, F y = none := fun y hy => (h3 y (ok.sub y hy)).2.1
  have l : Lent T H F ls := ⟨ok.lst _ H F _ h2, fun y hy => ⟨fn y hy, (h3 y (ok.sub y hy)).2.2.2.1⟩⟩
  refine ⟨_, h1, a, dx, fs, rfl, g1, g2, ?_⟩
  refine ⟨lendL H F ls, T, ψ, .ref a, [], [], _, _, rfl, lend_bs R0.bs l, ok.own, ok.at_ _ H F _ h2 fn, fun y hy => ?_, .nil, rfl, p2, fun w d H' F' s r pd => ?_, fun r ds H' F' s rr nw pd => ?_⟩
  · obtain ⟨y1, y2⟩ := ok.sub2 y hy
    obtain ⟨k1, k2, _, k4, _⟩ := h3 y y1
    exact ⟨k1, by unfold lendL; rw [if_neg y2]; exact k2, k4⟩
  · have hl : ∀ y ∈ ls, ∃ xs, F' y = some (.lst xs) := fun y hy => by
      obtain ⟨xs, e⟩ := l.at_ y hy
      exact ⟨xs, by rw [(lend_kept l s y hy).2]; exact e⟩
    exact q w d H' _ (lend_back l s) (Rp.off hl d pd.1 r) pd.2
  · have hl : ∀ y ∈ ls, ∃ xs, F' y = some (.lst xs) := fun y hy => by
      obtain ⟨xs, e⟩ := l.at_ y hy
      exact ⟨xs, by rw [(lend_kept l s y hy).2]; exact e⟩
    have hr : r ∉ ls := fun z => by
      obtain ⟨xs, e⟩ := l.at_ r z
      rw [nw] at e; cases e
    exact q (.ref r) (.list ds) H' _ (lend_back l s) (Rp.offNew hl hr pd.1 rr) pd.2
end
end Ab

/-! the desk -/
namespace Lr
open PySem Ab L2
structure Dk where
  room : Int
  pause : Int
  rule : Rule
  cs : List Int
  un : List Int
def dkF (vC vR : V) (l1 l2 : Addr) : List (Str × V) := [("_crossing", vC), ("_rule", vR), ("_comings", .ref l1), ("_undone", .ref l2)]
structure DkCls (K : PySem.W.Frag) (C : Addr) : Prop where
  cls : Cls K C
  f1 : NoAttr K C "_crossing"
  f2 : NoAttr K C "_rule"
  f3 : NoAttr K C "_comings"
  f4 : NoAttr K C "_undone"
/-- the desk at a, of the class C -/
def dkT (C a dx l1 l2 : Addr) (c : Dk) : LnT where
  A := [a, dx, l1, l2]
  own := true
  at_ := fun K H F v => v = .ref a ∧ DkCls K C ∧ [a, dx, l1, l2].Nodup ∧ H dx = some (.own a) ∧ H l1 = some (.lst (c.cs.map V.int)) ∧ H l2 = some (.lst (c.un.map V.int)) ∧ ∃ vC vR, H a = some (.ins C dx (dkF vC vR l1 l2)) ∧ Rp K F vC (crD c.room c.pause) ∧ Rp K F vR c.rule.d
  mono := fun {K H F H' F' v} h k s => by
    obtain ⟨h1, hc, h2, h3, h4, h5, vC, vR, h6, h7, h8⟩ := h
    exact ⟨h1, hc, h2, by rw [k dx (by simp)]; exact h3, by rw [k l1 (by simp)]; exact h4, by rw [k l2 (by simp)]; exact h5, vC, vR, by rw [k a (by simp)]; exact h6, Rp.sub s _ h7, Rp.sub s _ h8⟩
/-- what a method that only reads sees -/
def dkR (C a dx l1 l2 : Addr) (c : Dk) : LnT where
  A := [a, dx]
  own := false
  at_ := fun K H F v => v = .ref a ∧ DkCls K C ∧ ∃ vC vR, H a = some (.ins C dx (dkF vC vR l1 l2)) ∧ Rp K F vC (crD c.room c.pause) ∧ Rp K F vR c.rule.d ∧ Rp K F (.ref l1) (coD c.cs) ∧ Rp K F (.ref l2) (coD c.un)
  mono := fun {K H F H' F' v} h k s => by
    obtain ⟨h1, hc, vC, vR, h6, h7, h8, h9, h10⟩ := h
    exact ⟨h1, hc, vC, vR, by rw [k a (by simp)]; exact h6, Rp.sub s _ h7, Rp.sub s _ h8, Rp.sub s _ h9, Rp.sub s _ h10⟩
theorem rp_ints {K : KW} {F : Hp} : ∀ cs : List Int, RpAll K F (cs.map V.int) (cs.map PyData.int)
  | [] => .nil
  | c :: cs => .cons (.int c) (rp_ints cs)
theorem dk_rd {C a dx l1 l2 : Addr} {c : Dk} {m : Str} (hm : m ≠ "_crossing" ∧ m ≠ "_rule" ∧ m ≠ "_comings" ∧ m ≠ "_undone") (nd : [a, dx, l1, l2].Nodup) : RdOk C m (dkT C a dx l1 l2 c) (dkR C a dx l1 l2 c) [l1, l2] := by
  refine ⟨rfl, fun x hx => ?_, fun x hx => ?_, fun K H F v h => ?_, fun K H F v h x hx => ?_, fun K H F v h hn => ?_⟩
  · show x ∈ [a, dx, l1, l2]
    simp only [List.mem_cons, List.not_mem_nil, or_false] at hx ⊢
    rcases hx with rfl | rfl <;> simp
  · have hx : x ∈ [a, dx] := hx
    show x ∈ [a, dx, l1, l2] ∧ x ∉ [l1, l2]
    simp only [List.nodup_cons, List.mem_cons, List.not_mem_nil, or_false, not_or] at nd hx ⊢
    obtain ⟨⟨n1, n2, n3⟩, ⟨n4, n5⟩, _⟩ := nd
    rcases hx with rfl | rfl
    · exact ⟨.inl rfl, n2, n3⟩
    · exact ⟨.inr (.inl rfl), n4, n5⟩
  · obtain ⟨h1, hc, h2, h3, h4, h5, vC, vR, h6, h7, h8⟩ := h
    refine ⟨a, dx, _, h1, h6, ?_⟩
    have e : ∀ y : Str, m ≠ y → (m == y) = false := fun y h => beq_eq_false_iff_ne.mpr h
    simp only [dkF, List.lookup, e _ hm.1, e _ hm.2.1, e _ hm.2.2.1, e _ hm.2.2.2]
  · obtain ⟨h1, hc, h2, h3, h4, h5, _⟩ := h
    simp only [List.mem_cons, List.not_mem_nil, or_false] at hx
    rcases hx with rfl | rfl
    · exact ⟨_, h4⟩
    · exact ⟨_, h5⟩
  · obtain ⟨h1, hc, h2, h3, h4, h5, vC, vR, h6, h7, h8⟩ := h
    have sb : Sub F (lendL H F [l1, l2]) := fun x o e => by
      unfold lendL
      by_cases q : x ∈ [l1, l2]
      · rw [hn x q] at e; cases e
      · rw [if_neg q]; exact e
    exact ⟨h1, hc, vC, vR, h6, Rp.sub sb _ h7, Rp.sub sb _ h8, .lst (by unfold lendL; rw [if_pos (by simp)]; exact h4) (rp_ints _), .lst (by unfold lendL; rw [if_pos (by simp)]; exact h5) (rp_ints _)⟩
end Lr
namespace Lr
open PySem Ab L2
section
variable {C a dx l1 l2 : Addr} {c : Dk}
theorem fld_crossing : FldIs (dkR C a dx l1 l2 c) "_crossing" (crD c.room c.pause) := fun K H F v h => by
  obtain ⟨h1, hc, vC, vR, h6, h7, h8, h9, h10⟩ := h
  exact ⟨a, C, dx, _, vC, h1, h6, hc.cls, hc.f1, rfl, h7⟩
theorem fld_rule : FldIs (dkR C a dx l1 l2 c) "_rule" c.rule.d := fun K H F v h => by
  obtain ⟨h1, hc, vC, vR, h6, h7, h8, h9, h10⟩ := h
  exact ⟨a, C, dx, _, vR, h1, h6, hc.cls, hc.f2, rfl, h8⟩
theorem fld_comings : FldIs (dkR C a dx l1 l2 c) "_comings" (coD c.cs) := fun K H F v h => by
  obtain ⟨h1, hc, vC, vR, h6, h7, h8, h9, h10⟩ := h
  exact ⟨a, C, dx, _, .ref l1, h1, h6, hc.cls, hc.f3, rfl, h9⟩
end
/-! promises of the methods that only read -/
def DkOk (c : Dk) : Prop := CrOk c.room c.pause ∧ c.rule.ok ∧ CosOk c.cs
def WD_comings : WtL := fun as _ PO => ∃ C a dx l1 l2 c, as = [.ln (dkR C a dx l1 l2 c)] ∧ DkOk c ∧ PO (c.cs.map PyData.int)
def WD_lights : WtL := fun as _ PO => ∃ C a dx l1 l2 c, as = [.ln (dkR C a dx l1 l2 c)] ∧ DkOk c ∧ PO ((lights c.room c.pause c.rule c.cs).map Lt.d)
def WD_len : WtL := fun as P _ => ∃ C a dx l1 l2 c, as = [.ln (dkR C a dx l1 l2 c)] ∧ DkOk c ∧ P (.int (c.cs.length : Int))
def WD_lines : WtL := fun as P _ => ∃ C a dx l1 l2 c, as = [.ln (dkR C a dx l1 l2 c)] ∧ DkOk c ∧ P (match ((linesOf c.room c.pause c.rule c.cs).map prD).getLast? with | some d => d | none => .tuple [.int 0, .int 0])
def WD_totals : WtL := fun as P _ => ∃ C a dx l1 l2 c, as = [.ln (dkR C a dx l1 l2 c)] ∧ DkOk c ∧ P (.tuple [.int ((countsOf c.room c.pause c.rule c.cs).map (·.1)).sum, .int ((countsOf c.room c.pause c.rule c.cs).map (·.2)).sum])
/-! the rows of ticks, as new lists -/
def WO_lights : WtO := fun as P => ∃ room pause rule cs, as = [.va (crD room pause), .va (Rule.d rule), .va (coD cs)] ∧ CrOk room pause ∧ rule.ok ∧ CosOk cs ∧ P ((lights room pause rule cs).map Lt.d)
def WO_lines : WtO := fun as P => ∃ room pause rule cs, as = [.va (crD room pause), .va (Rule.d rule), .va (coD cs)] ∧ CrOk room pause ∧ rule.ok ∧ CosOk cs ∧ P ((linesOf room pause rule cs).map prD)
def WO_counts : WtO := fun as P => ∃ room pause rule cs, as = [.va (crD room pause), .va (Rule.d rule), .va (coD cs)] ∧ CrOk room pause ∧ rule.ok ∧ CosOk cs ∧ P ((countsOf room pause rule cs).map prD)
end Lr

/-! things made of several objects: made, changed -/
namespace Ab
open PySem PySem.Spec PyProof.Rows L2
/-- no other such thing -/
def noLn (env : AE) (i : Nat) : Bool := (env.set i .un).all fun s => match s with | .ln _ => false | _ => true
theorem noLn_of {env : AE} {i j : Nat} {φ : LnT} (h : noLn env i = true) (e : env[j]? = some (.ln φ)) : j = i := by
  by_cases q : i = j
  · exact q.symm
  · exfalso
    have e2 : (env.set i .un)[j]? = some (.ln φ) := by rw [List.getElem?_set_ne q]; exact e
    have := List.all_eq_true.mp h _ (List.mem_of_getElem? e2)
    cases this
/-- what such a thing may become -/
structure LnTo (φ φ' : LnT) : Prop where
  own : φ.own = true ∧ φ'.own = true
  sub : ∀ x ∈ φ.A, x ∈ φ'.A
  same : ∀ {K : KW} {H F H' F' : Hp} {v v' : V}, φ.at_ K H F v → φ'.at_ K H' F' v' → v' = v
section
variable {K : KW} {B F0 : Hp} {M T : Tws K} {env : AE} {σ : L2.St} {H F H' F' : Hp}
/-- a step that changes the objects A too -/
structure StpA {K : KW} (T : Tws K) (A : List Addr) (H F H' F' : Hp) : Prop where
  sub : Sub F' H'
  ext : Sub F F'
  new : ∀ a o, F' a = some o → F a = some o ∨ H a = none
  keep : ∀ a o, H a = some o → ¬ T a → a ∉ A → H' a = some o
  tc : ∀ a, T a → T.ok H' a
theorem R.lnMut {i : Nat} {φ φ' : LnT} (r : R K B F0 M T env σ H F) (hi : env[i]? = some (.ln φ)) (one : noLn env i = true) (s : StpA T φ.A H F H' F') (ow : φ.own = true) (ow' : φ'.own = true)
    (hv : ∀ v, φ.at_ K H F v → φ'.at_ K H' F' v) (hA : ∀ x ∈ φ'.A, (∃ o, H' x = some o) ∧ F' x = none ∧ (x ∈ φ.A ∨ H x = none)) : R K B F0 M T (env.set i (.ln φ')) σ H' F' := by
  have il : i < env.length := (List.getElem?_eq_some_iff.mp hi).1
  obtain ⟨⟨v, e1, e2⟩, e3⟩ := r.ln i φ hi
  have hF : ∀ x o, H x = some o → F x = none → F' x = none := fun x o ho hf => by
    cases q : F' x with
    | none => rfl
    | some u =>
      rcases s.new x u q with z | z
      · rw [hf] at z; cases z
      · rw [ho] at z; cases z
  have hn : ∀ x ∈ φ.A, B x = none ∧ ¬ T x := fun x hx => ⟨(e3 x hx).2.2.1 ow, (e3 x hx).2.2.2.1⟩
  have at_ : ∀ {j : Nat} {s : Sl}, (env.set i (.ln φ'))[j]? = some s → (i = j ∧ s = .ln φ') ∨ (i ≠ j ∧ env[j]? = some s) := fun {j s} he => by
    by_cases q : i = j
    · subst q
      rw [List.getElem?_set_self il] at he
      exact .inl ⟨rfl, (Option.some.inj he).symm⟩
    · rw [List.getElem?_set_ne q] at he
      exact .inr ⟨q, he⟩
  refine ⟨⟨s.sub, r.f0.trans s.ext, fun a o e => ?_, fun a o e m => ?_, fun a t => ?_, r.mt⟩, by rw [List.length_set]; exact r.len, fun j d e => ?_, fun j g e => ?_, fun j k e => ?_, fun j ns e => ?_, fun j k g g' a h1 h2 h3 h4 => ?_, fun j ψ e => ?_⟩
  · rcases s.new a o e with z | z
    · exact r.new a o z
    · exact .inr (r.toGd.dom z)
  · refine s.keep a o (r.keep a o e m) (fun t => ?_) (fun z => ?_)
    · rcases (r.tw a t).2.2 with z | z
      · exact m z
      · rw [e] at z; cases z
    · rw [(hn a z).1] at e; cases e
  · obtain ⟨o, z⟩ := Tws.has (r.tw a t).2.1
    exact ⟨hF a o z (r.tw a t).1, s.tc a t, (r.tw a t).2.2⟩
  · rcases at_ e with ⟨_, z⟩ | ⟨_, z⟩
    · cases z
    · obtain ⟨v, h1, h2⟩ := r.va j d z
      exact ⟨v, h1, Rp.sub s.ext _ h2⟩
  · rcases at_ e with ⟨_, z⟩ | ⟨_, z⟩
    · cases z
    · obtain ⟨a, u, h1, h2, h3, h4, h5, h6⟩ := r.og j g z
      refine ⟨a, u, h1, s.keep a u h2 h5 (fun y => (e3 a y).2.2.2.2 j g z h1), hF a u h2 h3, h4, h5, h6.sub s.ext⟩
  · rcases at_ e with ⟨_, z⟩ | ⟨_, z⟩
    · cases z
    · exact r.ti j k z
  · rcases at_ e with ⟨_, z⟩ | ⟨_, z⟩
    · cases z
    · obtain ⟨a, h1, h2⟩ := r.sc j ns z
      exact ⟨a, h1, s.ext.seqL h2⟩
  · rcases at_ h1 with ⟨_, z⟩ | ⟨_, z1⟩
    · cases z
    · rcases at_ h2 with ⟨_, z⟩ | ⟨_, z2⟩
      · cases z
      · exact r.di j k g g' a z1 z2 h3 h4
  · rcases at_ e with ⟨q, z⟩ | ⟨q, z⟩
    · subst q; cases z
      refine ⟨⟨v, e1, hv v e2⟩, fun x hx => ?_⟩
      obtain ⟨a1, a2, a3⟩ := hA x hx
      refine ⟨a1, a2, fun _ => ?_, ?_, fun j g he => ?_⟩
      · rcases a3 with a3 | a3
        · exact (hn x a3).1
        · exact r.toGd.dom a3
      · rcases a3 with a3 | a3
        · exact (hn x a3).2
        · intro t
          obtain ⟨o, z⟩ := Tws.has (r.tw x t).2.1
          rw [a3] at z; cases z
      · rcases at_ he with ⟨_, z⟩ | ⟨_, z⟩
        · cases z
        · rcases a3 with a3 | a3
          · exact (e3 x a3).2.2.2.2 j g z
          · intro h
            obtain ⟨a, u, h1, h2, _⟩ := r.og j g z
            rw [h] at h1
            have : x = a := by
              have := Option.some.inj (Option.some.inj h1)
              injection this
            subst this
            rw [a3] at h2; cases h2
    · exact absurd (noLn_of one z).symm q
/-- a new one is put into a slot -/
theorem R.putL {i : Nat} {φ : LnT} {v : V} (r : R K B F0 M T env σ H F) (il : i < env.length) (hv : φ.at_ K H F v) (hA : ∀ x ∈ φ.A, (∃ o, H x = some o) ∧ F x = none ∧ B x = none ∧ ¬ T x ∧ (∀ (j : Nat) g, env[j]? = some (.og g) → σ[j]? ≠ some (some (.ref x)))) :
    R K B F0 M T (env.set i (.ln φ)) (σ.set i (some v)) H F := by
  have at_ : ∀ {j : Nat} {s : Sl}, (env.set i (.ln φ))[j]? = some s → (i = j ∧ s = .ln φ) ∨ (i ≠ j ∧ env[j]? = some s) := fun {j s} he => by
    by_cases q : i = j
    · subst q
      rw [List.getElem?_set_self il] at he
      exact .inl ⟨rfl, (Option.some.inj he).symm⟩
    · rw [List.getElem?_set_ne q] at he
      exact .inr ⟨q, he⟩
  refine ⟨r.toGd, by rw [List.length_set, List.length_set]; exact r.len, fun j d e => ?_, fun j g e => ?_, fun j k e => ?_, fun j ns e => ?_, fun j k g g' a h1 h2 h3 h4 => ?_, fun j ψ e => ?_⟩
  · rcases at_ e with ⟨_, z⟩ | ⟨q, z⟩
    · cases z
    · rw [List.getElem?_set_ne q]; exact r.va j d z
  · rcases at_ e with ⟨_, z⟩ | ⟨q, z⟩
    · cases z
    · rw [List.getElem?_set_ne q]; exact r.og j g z
  · rcases at_ e with ⟨_, z⟩ | ⟨q, z⟩
    · cases z
    · rw [List.getElem?_set_ne q]; exact r.ti j k z
  · rcases at_ e with ⟨_, z⟩ | ⟨q, z⟩
    · cases z
    · rw [List.getElem?_set_ne q]; exact r.sc j ns z
  · rcases at_ h1 with ⟨_, z⟩ | ⟨q1, z1⟩
    · cases z
    · rcases at_ h2 with ⟨_, z⟩ | ⟨q2, z2⟩
      · cases z
      · rw [List.getElem?_set_ne q1] at h3
        rw [List.getElem?_set_ne q2] at h4
        exact r.di j k g g' a z1 z2 h3 h4
  · rcases at_ e with ⟨q, z⟩ | ⟨q, z⟩
    · subst q; cases z
      refine ⟨⟨v, List.getElem?_set_self (by rw [← r.len]; exact il), hv⟩, fun x hx => ?_⟩
      obtain ⟨a1, a2, a3, a4, a5⟩ := hA x hx
      refine ⟨a1, a2, fun _ => a3, a4, fun j g he => ?_⟩
      rcases at_ he with ⟨_, z⟩ | ⟨q, z⟩
      · cases z
      · rw [List.getElem?_set_ne q]; exact a5 j g z
    · rw [List.getElem?_set_ne q]
      obtain ⟨h1, h2⟩ := r.ln j ψ z
      refine ⟨h1, fun x hx => ?_⟩
      obtain ⟨a1, a2, a3, a4, a5⟩ := h2 x hx
      refine ⟨a1, a2, a3, a4, fun k g he => ?_⟩
      rcases at_ he with ⟨_, z⟩ | ⟨q, z⟩
      · cases z
      · rw [List.getElem?_set_ne q]; exact a5 k g z
/-- one object of it is written -/
theorem StpA.upd {A : List Addr} {x : Addr} {o : HO} (g : Bs T H F) (hx : x ∈ A) (nt : ¬ T x) (fx : F x = none) (hm : H x = none ∨ Mut (H x)) : StpA T A H F (upd H x o) F := by
  refine ⟨fun a u e => ?_, Sub.refl F, fun a u e => .inl e, fun a u e _ na => ?_, fun a t => ?_⟩
  · have : a ≠ x := fun z => by subst z; rw [fx] at e; cases e
    rw [upd_ne this]; exact g.sub a u e
  · have : a ≠ x := fun z => by subst z; exact na hx
    rw [upd_ne this]; exact e
  · have : a ≠ x := fun z => by subst z; exact nt t
    exact Tws.mono (g.tw a t).2 this hm
theorem Stp.toA {A : List Addr} (s : Stp T H F H' F') : StpA T A H F H' F' := ⟨s.sub, s.ext, s.new, fun a o e t _ => s.keep a o e t, s.tc⟩
theorem StpA.after {A : List Addr} {H2 F2 : Hp} (s : Stp T H F H' F') (t : StpA T A H' F' H2 F2) : StpA T A H F H2 F2 := ⟨t.sub, s.ext.trans t.ext, fun a o h => by
  rcases t.new a o h with z | z
  · exact s.new a o z
  · exact .inr (s.dom z), fun a o e nt na => t.keep a o (s.keep a o e nt) nt na, t.tc⟩
end
/-! expressions and tests that change what the slots know -/
abbrev AXm := AE → (DD → AE → Prop) → Prop
abbrev ATm := AE → (Bool → AE → Prop) → Prop
def SimEm (K : KW) (t : TE) (α : AXm) : Prop := ∀ B F0 M T env σ H F, R K B F0 M T env σ H F → ∀ P, α env P → ∀ Q : VK, (∀ v d env' H' F', R K B F0 M T env' σ H' F' → Rp K F' v d → P d env' → Q v H') → t σ H Q
def SimTm (K : KW) (t : TT) (τ : ATm) : Prop := ∀ B F0 M T env σ H F, R K B F0 M T env σ H F → ∀ P, τ env P → ∀ Q : Bool → Hp → Prop, (∀ b env' H' F', R K B F0 M T env' σ H' F' → P b env' → Q b H') → t σ H Q
structure JEm (X : Cx) (e : Expr) (α : AXm) : Prop where ex : ∃ t, PE X e t ∧ SimEm (kw X) t α
structure JTm (X : Cx) (e : Expr) (τ : ATm) : Prop where ex : ∃ t, PT X e t ∧ SimTm (kw X) t τ
section
variable {X : Cx} {e a b c : Expr} {es : List Expr} {pos p : Pos} {α : AXm} {β : AEx} {τ : ATm} {υ : ATx}
def aMv (β : AEx) : AXm := fun env P => β env fun d => P d env
theorem je_mv (h : JE X e β) : JEm X e (aMv β) := by
  obtain ⟨t, h1, h2⟩ := h.ex
  exact ⟨t, h1, fun B F0 M T env σ H F R0 P p Q q => h2 B F0 M T env σ H F R0 _ p Q fun v d H' F' s r p' => q v d env H' F' (R0.step s) r p'⟩
def aCmpM (ρ : DD → DD → (DD → Prop) → Prop) (α : AXm) (β : AEx) : ATm := fun env P => α env fun x env' => β env' fun y => ρ x y fun z => ∃ k, z = .bool k ∧ P k env'
/-- a == b, where a changes what the slots know -/
theorem jtm_cmp {op : CmpOp} {r : R2} {ρ : DD → DD → (DD → Prop) → Prop} (ho : OpR X (compareOp op) r) (hr : SimR (kw X) r ρ) (ha : JEm X a α) (hb : JE X b β) (hm : behindInMarks op b = false) : JTm X (.Compare a [op] [b] pos) (aCmpM ρ α β) := by
  obtain ⟨ta, a1, a2⟩ := ha.ex
  obtain ⟨tb, b1, b2⟩ := hb.ex
  refine ⟨_, pt_cmpR ho a1 b1 hm, fun B F0 M T env σ H F R0 P p Q q => a2 B F0 M T env σ H F R0 _ p _ fun v d env1 H1 F1 R1 d1 p1 => b2 B F0 M T env1 σ H1 F1 R1 _ p1 _ fun w e H2 F2 s2 d2 p2 => ?_⟩
  refine hr T H2 F2 v w d e (R1.step s2).bs (Rp.sub s2.ext _ d1) d2 _ p2 _ fun z f H3 F3 s3 d3 p3 => ?_
  obtain ⟨k, rfl, p3⟩ := p3
  cases d3
  exact ⟨k, rfl, q k env1 H3 F3 ((R1.step s2).step s3) p3⟩
def aOrM (τ : ATm) (υ : ATx) : ATm := fun env P => τ env fun k env' => (k = true → P true env') ∧ (k = false → υ env' fun b => P b env')
/-- a or b or .., where a changes what the slots know -/
theorem jtm_or (h : JTm X a τ) (g : JW X (.BoolOp .Or (b :: es) p) υ) : JTm X (.BoolOp .Or (a :: b :: es) p) (aOrM τ υ) := by
  obtain ⟨t, h1, h2⟩ := h.ex
  obtain ⟨u, g1, g2⟩ := g.ex
  refine ⟨_, (pw_or h1 g1).pt, fun B F0 M T env σ H F R0 P p Q q => h2 B F0 M T env σ H F R0 _ p _ fun k env1 H1 F1 R1 p1 => ?_⟩
  cases k with
  | true => exact (if_pos rfl).mpr (q true env1 H1 F1 R1 (p1.1 rfl))
  | false => exact (if_neg Bool.false_ne_true).mpr (g2 B F0 M T env1 σ H1 F1 R1 _ (p1.2 rfl) Q fun b H2 F2 s2 p2 => q b env1 H2 F2 (R1.step s2) p2)
def aIfM (τ : ATm) (x y : ASx) : ASx := fun A env => τ env fun k env' => (k = true → x A env') ∧ (k = false → y A env')
theorem js_ifM {sa sb : List Stmt} {x y : ASx} (h : JTm X c τ) (ha : JSs X sa x) (hb : JSs X sb y) : JS X (.If c sa sb pos) (aIfM τ x y) := by
  obtain ⟨t, h1, h2⟩ := h.ex
  obtain ⟨ta, a1, a2⟩ := ha.ex
  obtain ⟨tb, b1, b2⟩ := hb.ex
  refine ⟨_, ps_if h1 a1 b1, fun B F0 M T env σ H F R0 A D l p => h2 B F0 M T env σ H F R0 _ p _ fun k env1 H1 F1 R1 p1 => ?_⟩
  cases k with
  | true => exact (if_pos rfl).mpr (a2 B F0 M T env1 σ H1 F1 R1 A D l (p1.1 rfl))
  | false => exact (if_neg Bool.false_ne_true).mpr (b2 B F0 M T env1 σ H1 F1 R1 A D l (p1.2 rfl))
def aDropM (α : AXm) : ASx := fun A env => α env fun _ env' => A.nx env'
theorem js_exprM (he : JEm X e α) (hs : swapsWith e none pos.line X.env = pure false := by rfl) : JS X (.Expr e pos) (aDropM α) := by
  obtain ⟨t, h1, h2⟩ := he.ex
  exact ⟨_, ps_expr h1 hs, fun B F0 M T env σ H F R0 A D l p => h2 B F0 M T env σ H F R0 _ p _ fun v d env1 H1 F1 R1 d1 p1 => l.nx T env1 σ H1 F1 R1 p1⟩
end
/-! a def whose first argument is such a thing, which it changes -/
abbrev WtM := AE → (DD → LnT → Prop) → Prop
def spMut (K : KW) (n : Nat) (W : WtM) : Sp := fun vs H Q _ => ∃ (F : Hp) (T : Tws K) (φ : LnT) (v : V) (vs' : List V) (as : AE) (P : DD → LnT → Prop), vs = v :: vs' ∧ Bs T H F ∧ φ.own = true ∧ φ.at_ K H F v ∧ (∀ x ∈ φ.A, (∃ o, H x = some o) ∧ F x = none ∧ ¬ T x) ∧ Paired (Arg K T F) vs' as ∧ as.length + 1 = n ∧ W (.ln φ :: as) P ∧
  ∀ w d φ' H' F', LnTo φ φ' → StpA T φ.A H F H' F' → φ'.at_ K H' F' v → (∀ x ∈ φ'.A, (∃ o, H' x = some o) ∧ F' x = none ∧ (x ∈ φ.A ∨ H x = none)) → Rp K F' w d → P d φ' → Q w H'
theorem spMut_len {K : KW} {n : Nat} {W : WtM} : ∀ vs H Q E, spMut K n W vs H Q E → vs.length = n := fun vs H Q E h => by
  obtain ⟨F, T, φ, v, vs', as, P, rfl, _, _, _, _, h2, h3, _⟩ := h
  rw [← h3, List.length_cons, pairedLen h2]
theorem def_fnM {P : Program} {w : World} {K : PySem.W.Frag} {mg : Str → Option Value} {base : Heap} {k : Nat} {x qual : Str} {st : Stmt} {f : Addr} {fd : FuncData} {N ps : List Str} {W : WtM} (us : AE) (F : Fun K x qual st f fd) (S : FnScope N ps (defScope st))
    (hbody : ∃ a : ASx, (∀ (cdv : Value) (A : Around) (outer : List Env) (s : Shared) (H : Hp) (E : XK), Room k (A.deeper (envOfC qual (defScope st) s.heap.objs.size f cdv)) → JSs (cxOf CX0 P w K mg base N qual (defScope st) f cdv A outer s H E).nox (defBody st) a) ∧
      ∀ φ as Q, as.length + 1 = ps.length → W (.ln φ :: as) Q → φ.own = true → a { nx := fun env => ∃ φ', env[0]? = some (.ln φ') ∧ LnTo φ φ' ∧ Q .none φ', rt := fun _ => False, rtE := fun d env => ∃ φ', env[0]? = some (.ln φ') ∧ LnTo φ φ' ∧ Q d φ' } (.ln φ :: as ++ us))
    (hus : us = List.replicate (N.length - ps.length) Sl.un := by rfl) : FnOk P w K mg base CX0 (k + 1) f fd ps (spMut ⟨K, P, w⟩ ps.length W) := by
  refine F.ok S (fun vs H Q E h => spMut_len vs H Q E h) (fun cdv A outer s H vs Q E hr h => ?_)
  obtain ⟨a, hb1, hb2⟩ := hbody
  obtain ⟨F1, T, φ, v0, vs', as, Pd, rfl, b, hown, hat, hA, pr, hl, hw, q⟩ := h
  obtain ⟨t, h1, h2⟩ := (hb1 cdv A outer s H E hr).ex
  have hvl : vs'.length = as.length := pairedLen pr
  have boff : ∀ x o, offL H φ.A x = some o → H x = some o ∧ x ∉ φ.A := fun x o e => by
    unfold offL at e
    by_cases z : x ∈ φ.A
    · rw [if_pos z] at e; cases e
    · rw [if_neg z] at e; exact ⟨e, z⟩
  have nof : ∀ x, offL H φ.A x = none → H x = none ∨ x ∈ φ.A := fun x e => by
    unfold offL at e
    by_cases z : x ∈ φ.A
    · exact .inr z
    · rw [if_neg z] at e; exact .inl e
  refine ⟨t, h1, h2 (offL H φ.A) F1 T T (.ln φ :: as ++ us) (L2.start N (v0 :: vs')) H F1 ?_ _ _ ?_ (hb2 φ as Pd hl hw hown)⟩
  · have at_ : ∀ {i : Nat} {s : Sl}, (.ln φ :: as ++ us)[i]? = some s → s ≠ .un → (i = 0 ∧ s = .ln φ) ∨ ∃ j, i = j + 1 ∧ as[j]? = some s := fun {i s} e n => by
      by_cases hi : i < (Sl.ln φ :: as).length
      · rw [List.getElem?_append_left hi] at e
        cases i with
        | zero => exact .inl ⟨rfl, (Option.some.inj e).symm⟩
        | succ j => exact .inr ⟨j, rfl, by simpa using e⟩
      · rw [List.getElem?_append_right (by omega), hus, List.getElem?_replicate] at e
        split at e
        · exact absurd (Option.some.inj e).symm n
        · cases e
    have arg : ∀ {j : Nat} {s : Sl}, as[j]? = some s → ∃ v, (L2.start N (v0 :: vs'))[j + 1]? = some (some v) ∧ Arg ⟨K, P, w⟩ T F1 v s := fun {j s} e => by
      obtain ⟨v, hv, ha⟩ := paired_get pr e
      exact ⟨v, start_get (i := j + 1) (by simpa using hv), ha⟩
    refine ⟨⟨b.sub, Sub.refl _, fun _ _ h => .inl h, fun a o h _ => (boff a o h).1, fun a t => ⟨(b.tw a t).1, (b.tw a t).2, .inl t⟩, fun _ h => ⟨h, KdLe.refl _⟩⟩, ?_, fun i d e => ?_, fun i ds e => ?_, fun i kk e => ?_, fun i ns e => ?_, fun i j ds es a h1 _ _ _ => ?_, fun i ψ e => ?_⟩
    · rw [List.length_append, start_len, hus, List.length_replicate, List.length_cons, List.length_cons, hvl]
      omega
    · rcases at_ e (by intro z; cases z) with ⟨_, z⟩ | ⟨j, rfl, e2⟩
      · cases z
      · obtain ⟨v, hv, ha⟩ := arg e2
        cases ha with
        | va h => exact ⟨v, hv, h⟩
    · rcases at_ e (by intro z; cases z) with ⟨_, z⟩ | ⟨j, rfl, e2⟩
      · cases z
      · obtain ⟨v, hv, ha⟩ := arg e2
        cases ha
    · rcases at_ e (by intro z; cases z) with ⟨_, z⟩ | ⟨j, rfl, e2⟩
      · cases z
      · obtain ⟨v, hv, ha⟩ := arg e2
        cases ha with
        | ty h e => exact ⟨_, h, e, hv⟩
    · rcases at_ e (by intro z; cases z) with ⟨_, z⟩ | ⟨j, rfl, e2⟩
      · cases z
      · obtain ⟨v, hv, ha⟩ := arg e2
        cases ha with
        | sc h => exact ⟨_, hv, h⟩
    · rcases at_ h1 (by intro z; cases z) with ⟨_, z⟩ | ⟨j, rfl, e2⟩
      · cases z
      · obtain ⟨v, hv, ha⟩ := arg e2
        cases ha
    · rcases at_ e (by intro z; cases z) with ⟨rfl, z⟩ | ⟨j, rfl, e2⟩
      · cases z
        refine ⟨⟨v0, start_get (i := 0) rfl, hat⟩, fun x hx => ?_⟩
        obtain ⟨k1, k2, k3⟩ := hA x hx
        refine ⟨k1, k2, fun _ => by unfold offL; rw [if_pos hx], k3, fun j g e => ?_⟩
        rcases at_ e (by intro z; cases z) with ⟨_, z⟩ | ⟨j, rfl, e2⟩
        · cases z
        · obtain ⟨v, hv, ha⟩ := arg e2
          cases ha
      · obtain ⟨v, hv, ha⟩ := arg e2
        cases ha
  · have fin : ∀ T' w' d env σ H' F', R ⟨K, P, w⟩ (offL H φ.A) F1 T T' env σ H' F' → Rp ⟨K, P, w⟩ F' w' d → (∃ φ', env[0]? = some (.ln φ') ∧ LnTo φ φ' ∧ Pd d φ') → Q w' H' := fun T' w' d env σ H' F' r rd p => by
      obtain ⟨φ', p1, p2, p3⟩ := p
      obtain ⟨⟨v, z1, z2⟩, z3⟩ := r.ln 0 φ' p1
      have ev := p2.same hat z2
      subst ev
      have hnA : ∀ x, x ∈ φ.A → F' x = none := fun x hx => (z3 x (p2.sub x hx)).2.1
      refine q w' d φ' H' F' p2 ⟨r.sub, r.f0, fun a o e => ?_, fun a o e nt na => r.keep a o (by unfold offL; rw [if_neg na]; exact e) nt, fun a t => Tws.le_ok (r.tw a (r.mt a t).1).2.1 (r.mt a t).2⟩ z2 (fun x hx => ?_) rd p3
      · rcases r.new a o e with z | z
        · exact .inl z
        · rcases nof a z with y | y
          · exact .inr y
          · rw [hnA a y] at e; cases e
      · obtain ⟨y1, y2, y3, _⟩ := z3 x hx
        exact ⟨y1, y2, (nof x (y3 p2.own.2)).symm⟩
    exact ⟨fun T' env σ H' F' r p => fin T' .non .none env σ H' F' r .non p, fun _ _ _ _ _ _ _ z => z.elim, fun _ _ _ _ _ _ z => z.elim, fun _ _ _ _ _ _ z => z.elim, fun _ _ _ _ _ _ _ _ z => z.elim, fun T' w' d env σ H' F' r rd p => fin T' w' d env σ H' F' r rd p⟩
/-- x.m(e, ..), x such a thing, m a method that changes it -/
structure ClM (P : Program) (w : World) (K : PySem.W.Frag) (mg : Str → Option Value) (base : Heap) (k : Nat) (C : Addr) (m : Str) (n : Nat) (W : WtM) : Prop where
  ex : ∃ (f : Addr) (fd : FuncData) (ps : List Str), FnOk P w K mg base CX0 k f fd ps (spMut ⟨K, P, w⟩ n W) ∧ Meth K C m f ∧ Binds K fd ps []
structure ClR (P : Program) (w : World) (K : PySem.W.Frag) (mg : Str → Option Value) (base : Heap) (k : Nat) (C : Addr) (m : Str) (n : Nat) (W : WtL) : Prop where
  ex : ∃ (f : Addr) (fd : FuncData) (ps : List Str), FnOk P w K mg base CX0 k f fd ps (spSelf ⟨K, P, w⟩ n W) ∧ Meth K C m f ∧ Binds K fd ps []
structure ClN (P : Program) (w : World) (K : PySem.W.Frag) (mg : Str → Option Value) (base : Heap) (k : Nat) (x : Str) (C : Addr) (n : Nat) (W : WtM) : Prop where
  ex : ∃ (f : Addr) (fd : FuncData) (ps : List Str), FnOk P w K mg base CX0 k f fd ps (spMut ⟨K, P, w⟩ n W) ∧ Mk K C f ∧ mg x = some (.ref C) ∧ Binds K fd ps []
section
variable {P : Program} {w : World} {K : PySem.W.Frag} {mg : Str → Option Value} {base : Heap} {j k : Nat} {C : Addr} {m x : Str} {n : Nat}
theorem ClM.mono {W : WtM} (h : ClM P w K mg base j C m n W) (l : j ≤ k) : ClM P w K mg base k C m n W := by
  obtain ⟨f, fd, ps, h1, h2⟩ := h.ex
  exact ⟨f, fd, ps, h1.mono l, h2⟩
theorem ClR.mono {W : WtL} (h : ClR P w K mg base j C m n W) (l : j ≤ k) : ClR P w K mg base k C m n W := by
  obtain ⟨f, fd, ps, h1, h2⟩ := h.ex
  exact ⟨f, fd, ps, h1.mono l, h2⟩
theorem ClN.mono {W : WtM} (h : ClN P w K mg base j x C n W) (l : j ≤ k) : ClN P w K mg base k x C n W := by
  obtain ⟨f, fd, ps, h1, h2⟩ := h.ex
  exact ⟨f, fd, ps, h1.mono l, h2⟩
end
section
variable {X : Cx} {e : Expr} {es : List Expr} {pos p apos : Pos} {x m : Str} {k n : Nat}
def aMethM (i : Nat) (C : Addr) (m : Str) (n : Nat) (W : WtM) (δ : AE → (AE → Prop) → Prop) : AXm := fun env P => ∃ φ, env[i]? = some (.ln φ) ∧ noLn env i = true ∧ φ.own = true ∧ (∀ (K : KW) (H F : Hp) (v : V), φ.at_ K H F v → ∃ a dx fs, v = .ref a ∧ H a = some (.ins C dx fs) ∧ fs.lookup m = none) ∧
  δ env fun as => as.length + 1 = n ∧ W (.ln φ :: as) fun d φ' => P d (env.set i (.ln φ'))
theorem j_methM (i : Nat) {C : Addr} {W : WtM} {δ : AE → (AE → Prop) → Prop} {pl : Sem Bool} (hC : Cls X.K C) (c : ClM X.prog X.w X.K X.mg X.base k C m n W) (hr : Room k X.A) (ha : JA X (e :: es) δ)
    (hN : X.N[i]? = some x := by rfl) (hv : Vis X.env.scope x := by first | exact Or.inl rfl | exact Or.inr (Or.inl rfl) | exact Or.inr (Or.inr rfl)) (hd : (x == ("__debug__" : Str)) = false := by decide)
    (hcd : (x == ("__classdict__" : Str)) = false := by decide)
    (hst : starEach (e :: es) X.env = (false, eval e X.env) :: starEach es X.env := by rfl) (hpl : (backTo pos (starEach es X.env)).any (·.1) = false := by rfl)
    (he : eval (.Call (.Attribute (.Name x p) m apos) (e :: es) [] pos) X.env = (do
      let ov ← eval (.Name x p) X.env
      standAt apos.atName
      let y ← holding [ov] (getMethod ov m pl)
      match y with
      | (f, first) => callWith pos f first (backTo pos (starEach (e :: es) X.env)) (backToKw pos (keywordEach [] X.env))) := by rfl) : JEm X (.Call (.Attribute (.Name x p) m apos) (e :: es) [] pos) (aMethM i C m n W δ) := by
  obtain ⟨f, fd, ps, hF, hM, hB⟩ := c.ex
  obtain ⟨t, g1, g2⟩ := ha.ex
  refine ⟨_, pe_meth (pe_var hN hv hd hcd) hC hM hF hr hB .nil pass0 g1 hst hpl he, fun B F0 M T env σ H F R0 P p Q q => ?_⟩
  obtain ⟨φ, p1, one, ow, ins, p2⟩ := p
  obtain ⟨⟨v, h1, h2⟩, h3⟩ := R0.ln i φ p1
  obtain ⟨a, dx, fs, rfl, q1, q2⟩ := ins _ H F v h2
  refine ⟨_, h1, a, dx, fs, rfl, q1, q2, g2 B F0 M T env σ H F R0 _ p2 _ fun vs as H1 F1 s1 pr p3 => ?_⟩
  have R1 := R0.step s1
  obtain ⟨⟨v', h1', h2'⟩, h3'⟩ := R1.ln i φ p1
  rw [h1] at h1'
  cases Option.some.inj (Option.some.inj h1')
  refine ⟨F1, T, φ, .ref a, vs, as, _, by rw [List.append_nil], R1.bs, ow, h2', fun y hy => ⟨(h3' y hy).1, (h3' y hy).2.1, (h3' y hy).2.2.2.1⟩, pr, p3.1, p3.2, fun w d φ' H2 F2 to s at2 A2 rd pd => ?_⟩
  exact q w d _ H2 F2 (R1.lnMut p1 one s ow to.own.2 (fun u hu => by
    obtain ⟨a', _, _, e', _⟩ := ins _ _ _ u hu
    have : u = .ref a := by
      have hh := h2'
      exact (to.same hu at2).symm
    rw [this]; exact at2) A2) rd pd
end
end Ab

/-! caught: try .. except X as e, and a def that is called with e there -/
namespace Ab
open PySem PySem.Spec PyProof.Rows L2
/-- the exception at a, in a slot -/
def exT (a : Addr) : LnT where
  A := []
  own := false
  at_ := fun _ _ _ v => v = .ref a
  mono := fun h _ _ => h
theorem R.exc {K : KW} {B F0 : Hp} {M T : Tws K} {env : AE} {σ : L2.St} {H F : Hp} {i : Nat} {a : Addr} (r : R K B F0 M T env σ H F) (il : i < env.length) : R K B F0 M T (env.set i (.ln (exT a))) (σ.set i (some (.ref a))) H F :=
  r.putL il rfl fun x hx => by cases hx
def aTry (i : Nat) (ok : Addr → Prop) (a : ASxx) (u : Addr → Addr → ASx) : ASx := fun A env => i < env.length ∧ a { nx := fun _ => False, rt := A.rt } (fun C env' => ok C ∧ env'.length = env.length ∧ ∀ x, u x C { nx := fun _ => False, rt := A.rt } (env'.set i (.ln (exT x)))) env
theorem js_try {X : Cx} {x n : Str} {c : Value} {body suite : List Stmt} {b₀ : Stmt} {np pos pos' : Pos} {a : ASxx} {u : Addr → Addr → ASx} {ok : Addr → Prop} (i : Nat) (hN : X.N.Nodup) (hc : Names X x c) (hok : ∀ C, ok C → PySem.W.exmOne X.K (.ref C) c = some true)
    (hb : ∀ pn xe, JSXs (X.tr pn xe) body a) (hu : ∀ e oe C pn, Zc (.ref C) none oe → (∃ vs, oe.data = .fields vs) → ok C → JSs (X.suite e ((e, oe) :: pn)) (b₀ :: suite) (u e C))
    (hs : X.stack = X.env :: X.outer := by rfl) (hf : X.env.frame = some X.env.locals := by rfl) (hi : X.N[i]? = some n := by rfl) (hln : X.env.kindOf n = some .local := by rfl) :
    JS X (.Try body [.ExceptHandler (some (.Name x np)) (some n) (b₀ :: suite) pos'] [] [] pos) (aTry i ok a u) := by
  refine ⟨_, ps_try_as (i := i) (tb := fun W => canSX (kw X) a W) (ts := fun e cls d D σ H => ∃ C, cls = .ref C ∧ d = none ∧ ok C ∧ ∃ B F0 M T env F, R (kw X) B F0 M T env σ H F ∧ ∃ A, Lk (kw X) B F0 M A D ∧ u e C A env) hs hf hN hi hln hc takes0
    (fun W pn xe tk _ => (hb pn xe).ex W tk) (fun e oe cls d pn hz hfl => ⟨fun pins s σ H D I ⟨C, e1, e2, hC, B, F0, M, T, env, F, R0, A, l, q⟩ => ?_⟩), fun B F0 M T env σ H F R0 A D l p => ?_⟩
  · subst e1 e2
    obtain ⟨t, g1, g2⟩ := (hu e oe C pn hz hfl hC).ex
    exact g1.run pins s σ H D I (g2 B F0 M T env σ H F R0 A D l q)
  · obtain ⟨il, p⟩ := p
    refine ⟨B, F0, M, T, env, F, R0, { nx := fun _ => False, rt := A.rt }, (fun C env' => ok C ∧ env'.length = env.length ∧ ∀ x, u x C { nx := fun _ => False, rt := A.rt } (env'.set i (.ln (exT x)))), ⟨fun _ _ _ _ _ _ z => z.elim, l.rt, fun _ _ _ _ _ _ z => z.elim, fun _ _ _ _ _ _ z => z.elim, fun _ _ _ _ _ _ _ _ z => z.elim, fun _ _ _ _ _ _ _ _ _ z => z.elim⟩, fun T' C env' σ' H' F' R1 p1 => ?_, p⟩
    obtain ⟨hC, hlen, p1⟩ := p1
    refine ⟨true, hok C hC, fun _ a ha => ⟨C, rfl, rfl, hC, B, F0, M, T', _, F', R1.exc (by rw [hlen]; exact il), { nx := fun _ => False, rt := A.rt }, ?_, p1 a⟩, fun z => by cases z⟩
    exact ⟨fun _ _ _ _ _ _ z => z.elim, l.rt, fun _ _ _ _ _ _ z => z.elim, fun _ _ _ _ _ _ z => z.elim, fun _ _ _ _ _ _ _ _ z => z.elim, fun _ _ _ _ _ _ _ _ _ z => z.elim⟩
end Ab
namespace Ab
open PySem PySem.Spec PyProof.Rows L2 L2H
abbrev WtE := Addr → (DD → Prop) → Prop
/-- what is promised to a caller in an except suite: the exception that is handled is of the class C -/
def Wants (K : KW) (W : WtE) (C : Addr) (H : Hp) (Q : VK) : Prop := ∃ (F : Hp) (T : Tws K) (Pd : DD → Prop), Bs T H F ∧ W C Pd ∧ ∀ v d H' F', Stp T H F H' F' → Rp K F' v d → Pd d → Q v H'
structure FnE (P : Program) (w : World) (K : PySem.W.Frag) (mg : Str → Option Value) (base : Heap) (k : Nat) (f : Addr) (fd : FuncData) (ps : List Str) (W : WtE) : Prop where
  len : ps.length = 1
  run : ∀ (A : Around) (outer : List Env) (s : Shared) (H : Hp) (args : Args) (Q : VK) (p : Addr × Obj) (C : Addr), RoomH k A → PinOk outer H s p → Zc (.ref C) none p.2 → (∃ vs, p.2.data = .fields vs) → Env0 P w K mg base A outer s H →
    BindsTo s fd args (ps.zip [.ref p.1]) → Wants ⟨K, P, w⟩ W C H Q → codeAny (model P w) A (.call (.ref f) args) (CR CX0 outer P w H s Q E0) s
theorem FnE.mono {P : Program} {w : World} {K : PySem.W.Frag} {mg : Str → Option Value} {base : Heap} {j k : Nat} {f : Addr} {fd : FuncData} {ps : List Str} {W : WtE} (h : FnE P w K mg base j f fd ps W) (l : j ≤ k) : FnE P w K mg base k f fd ps W :=
  ⟨h.len, fun A outer s H args Q p C r => h.run A outer s H args Q p C (r.mono l)⟩
theorem r_un {K : KW} {T : Tws K} {H F : Hp} {σ : L2.St} {n : Nat} (b : Bs T H F) (l : σ.length = n) : R K H F T T (List.replicate n Sl.un) σ H F := by
  have un : ∀ {i : Nat} {s : Sl}, (List.replicate n Sl.un)[i]? = some s → s = .un := fun {i s} e => by
    rw [List.getElem?_replicate] at e
    split at e
    · exact (Option.some.inj e).symm
    · cases e
  refine ⟨⟨b.sub, Sub.refl _, fun _ _ h => .inl h, fun _ _ h _ => h, fun a t => ⟨(b.tw a t).1, (b.tw a t).2, .inl t⟩, fun _ h => ⟨h, KdLe.refl _⟩⟩, by rw [List.length_replicate, l], fun i d e => ?_, fun i g e => ?_, fun i k e => ?_, fun i ns e => ?_, fun i j g g' a e _ _ _ => ?_, fun i φ e => ?_⟩
  all_goals cases un e
/-- such a def keeps its promise -/
theorem fn_exc {P : Program} {w : World} {K : PySem.W.Frag} {mg : Str → Option Value} {base : Heap} {k : Nat} {x qual q0 : Str} {st : Stmt} {f : Addr} {fd : FuncData} {N : List Str} {W : WtE} (ok : Addr → Prop) (hok : ∀ C Q, W C Q → ok C) (F : Fun K x qual st f fd) (S : FnScope N [q0] (defScope st))
    (hbody : ∃ a : Addr → Addr → ASx, (∀ (cdv : Value) (A : Around) (outer : List Env) (s : Shared) (H : Hp) (e : Addr) (oe : Obj) (C : Addr), RoomH k (A.deeper (envOfC qual (defScope st) s.heap.objs.size f cdv)) → Zc (.ref C) none oe → (∃ vs, oe.data = .fields vs) → ok C →
        JSs (cxH CX0 P w K mg base N qual (defScope st) f cdv A outer s H E0 (e, oe)) (defBody st) (a e C)) ∧
      ∀ C Q e, W C Q → a e C { nx := fun _ => Q .none, rt := Q } (.ln (exT e) :: List.replicate (N.length - 1) .un)) : FnE P w K mg base (k + 1) f fd [q0] W := by
  obtain ⟨oc, od, kV, doc, pm, an, cdv, ct, osl, rfl, look, code⟩ := F.ex
  obtain ⟨a, hb1, hb2⟩ := hbody
  refine ⟨rfl, fun A outer s H args Q p C room pin zc fl e0 bind want => ?_⟩
  have kin := e0.mod.kin.keeps (h' := s.heap) fun b o e => (e0.bs b o e).1
  have kinds : ∀ y ∈ List.zip [q0] [Value.ref p.1], (defScope st).names.lookup y.1 = some .local ∨ ((defScope st).names.lookup y.1 = some .cell ∧ ((cellsFrom (s.heap.objs.size + 1) (defScope st).names []).lookup y.1).isSome = true) := fun y hy =>
    (S.par y.1 (List.of_mem_zip hy).1).imp id fun q => ⟨q, PySem.W.cellsFrom_some _ _ _ (.inl q)⟩
  refine codeAny_call_function room.depth (kin _ _ look) rfl S.co S.gen rfl (PySem.W.codeRec_of kin code) (bind _ _ _ _ (wpAny_newFunctionEnv_cells S.kind kinds fun env he s1 inside => ?_))
  subst he
  refine ⟨(e0.mod.nolimit.keeps fun b o e => (e0.bs b o e).1).keeps inside.toInCall.keep, codeAny_func ?_⟩
  obtain ⟨t, g1, g2⟩ := (hb1 cdv A outer s H p.1 p.2 C (room.deeper _) zc fl (hok C _ want.choose_spec.choose_spec.choose_spec.2.1)).ex
  have start : Inv (cxH CX0 P w K mg base N qual (defScope st) f cdv A outer s H E0 p) [] (L2.start N [.ref p.1]) H s1 := inv_startH S pin e0 rfl (.cons rfl .nil) inside
  obtain ⟨F1, T, Pd, b, hw, q⟩ := want
  have hN : 1 ≤ N.length := by
    have := congrArg List.length S.pre
    rw [List.length_take] at this
    simp at this
    omega
  have R0 : R ⟨K, P, w⟩ H F1 T T (.ln (exT p.1) :: List.replicate (N.length - 1) .un) (L2.start N [.ref p.1]) H F1 := by
    have r := (r_un (n := N.length) (σ := L2.start N [.ref p.1]) b (by rw [start_len]; simp; omega)).exc (i := 0) (a := p.1) (by rw [List.length_replicate]; omega)
    have e1 : (List.replicate N.length Sl.un).set 0 (.ln (exT p.1)) = .ln (exT p.1) :: List.replicate (N.length - 1) .un := by
      obtain ⟨m, e⟩ : ∃ m, N.length = m + 1 := ⟨N.length - 1, by omega⟩
      rw [e]; rfl
    have e2 : (L2.start N [.ref p.1]).set 0 (some (.ref p.1)) = L2.start N [.ref p.1] := rfl
    rw [e1, e2] at r
    exact r
  have ends : Lk ⟨K, P, w⟩ H F1 T { nx := fun _ => Pd .none, rt := Pd } { nx := fun _ H' => Q .non H', rt := Q } :=
    have st : ∀ {T' : Tws ⟨K, P, w⟩} {H' F' : Hp}, Gd H F1 T T' H' F' → Stp T H F1 H' F' := fun {T' H' F'} g => ⟨g.sub, g.f0, g.new, g.keep, fun a t => Tws.le_ok (g.tw a (g.mt a t).1).2.1 (g.mt a t).2⟩
    ⟨fun T' env σ H' F' r p => q .non .none H' F' (st r.toGd) .non p, fun T' v d H' F' g r p => q v d H' F' (st g) r p, fun _ _ _ _ _ _ z => z.elim, fun _ _ _ _ _ _ z => z.elim, fun _ _ _ _ _ _ _ _ z => z.elim, fun _ _ _ _ _ _ _ _ _ z => z.elim⟩
  have body := g1.run [] s1 _ H { nx := fun _ H' => Q .non H', rt := Q } start (g2 H F1 T T _ _ H F1 R0 _ _ ends (hb2 C Pd p.1 hw))
  refine wpAny_mono body (fun fl' s' hs => ?_) fun _ _ z => z
  cases fl' with
  | next =>
    obtain ⟨σ', H', J, z⟩ := hs
    exact ⟨.non, H', J.os, J.bare, J.base, J.hok, rfl, z⟩
  | ret u =>
    obtain ⟨v, σ', H', J, rv, z⟩ := hs
    exact ⟨v, H', J.os, J.bare, J.base, J.hok, rv, z⟩
  | brk =>
    obtain ⟨_, _, _, z⟩ := hs
    exact z.elim
  | cont =>
    obtain ⟨_, _, _, z⟩ := hs
    exact z.elim
end Ab

namespace Ab
open PySem PySem.Spec PyProof.Rows L2 L2H
section
variable {X : Cx} {e : Expr} {es : List Expr} {pos p p2 apos px : Pos} {x y n : Str} {k : Nat} {α β : AEx}
/-- f(e) in an except suite, e the exception -/
def aExc (i : Nat) (a C : Addr) (W : WtE) : AEx := fun env P => env[i]? = some (.ln (exT a)) ∧ W C P
theorem j_excF {a C : Addr} {oe : Obj} {pn : List (Addr × Obj)} {f : Addr} {fd : FuncData} {ps : List Str} {W : WtE} (i : Nat) (hz : Zc (.ref C) none oe) (hfl : ∃ vs, oe.data = .fields vs) (F : FnE X.prog X.w X.K X.mg X.base k f fd ps W) (hr : RoomH k (X.suite a ((a, oe) :: pn)).A)
    (hm : X.mg x = some (.ref f)) (hk : PySem.W.keepIn X.K (.ref f) = true) (hb : L2.Binds X.K fd ps []) (hg : Gl (X.suite a ((a, oe) :: pn)) x := by rfl) (hdb : (x == ("__debug__" : Str)) = false := by decide)
    (hN : X.N[i]? = some n := by rfl) (hv : Vis X.env.scope n := by first | exact Or.inl rfl | exact Or.inr (Or.inl rfl) | exact Or.inr (Or.inr rfl)) (hd : (n == ("__debug__" : Str)) = false := by decide) (hcd : (n == ("__classdict__" : Str)) = false := by decide)
    (he : starEach [.Name n px] X.env = (false, eval (.Name n px) X.env) :: starEach [] X.env := by rfl) (hpl : (backTo pos (starEach [] X.env)).any (·.1) = false := by rfl) : JE (X.suite a ((a, oe) :: pn)) (.Call (.Name x p) [.Name n px] [] pos) (aExc i a C W) := by
  refine ⟨fun σ H Q => σ[i]? = some (some (.ref a)) ∧ Wants (kw X) W C H Q, ⟨fun pins s σ H Q I ⟨h1, h2⟩ => ?_⟩, fun B F0 M T env σ H F R0 P p Q q => ?_⟩
  · refine wpAny_Call_Name_kw (ld_glob I hg hm ?_ hdb)
    refine PySem.W.callWith_K (h₀ := X.base) I.ok.mod.kin hk (thn ((pa_cons (pe_var (X := X.suite a ((a, oe) :: pn)) (i := i) hN hv hd hcd) pa_nil he).run pos pins s σ H (fun vs H1 => vs = [.ref a] ∧ H1 = H) I ⟨_, h1, rfl, rfl⟩) fun us s2 ⟨vs, H2, I2, r, e1, e2⟩ => ⟨I2.kIn, ?_⟩) he hpl
    subst e1 e2
    cases r with | cons r1 r2 =>
    cases r2
    cases r1
    have pin := I2.pin (a, oe) (List.mem_append_left _ List.mem_cons_self)
    have pinok : PinOk (X.suite a ((a, oe) :: pn)).stack H2 s2 (a, oe) := ⟨pin.1, pin.2.1, fun hm => (List.mem_cons.mp (I2.stkSub a hm)).elim pin.2.2.1 pin.2.2.2.1, pin.2.2.2.2⟩
    have b := hb s2 [.ref a] I2.kIn (by rw [List.append_nil]; exact F.len.symm)
    rw [List.append_nil] at b
    refine wpAny_call (codeAny_mono (F.run _ _ s2 H2 ⟨[.ref a], []⟩ Q (a, oe) C hr pinok hz hfl I2.env0 b h2) fun r s' hq => ?_)
    cases r with
    | error e => exact hq.elim
    | ok fl =>
      cases fl with
      | ret u => exact I2.after hq
      | next => exact False.elim hq
      | brk => exact False.elim hq
      | cont => exact False.elim hq
  · obtain ⟨⟨v, g1, g2⟩, _⟩ := R0.ln i _ p.1
    cases g2
    exact ⟨g1, F, T, _, R0.bs, p.2, fun v d H' F' s r pd => q v d H' F' s r pd⟩
/-- isinstance(e, D), e the exception -/
theorem call_isP {a C : Addr} {oe : Obj} (hp : (a, oe) ∈ X.pn) (Cc : ExcC X.K C) (hz : Zc (.ref C) none oe) (hf : ∃ vs, oe.data = .fields vs) : CallR X (.builtin "isinstance") (rIsE X.K C a) := by
  intro pins s σ H xs us Q I r h
  obtain ⟨c, cv, b, rfl, hcv, e, q⟩ := h
  cases r with | cons rx rr =>
  cases rr with | cons rt rr =>
  cases rr
  cases rx
  have ec := hcv _ rt
  subst ec
  have hget := (I.pin (a, oe) (List.mem_append_left _ hp)).1
  obtain ⟨vs, hv⟩ := hf
  have J : PySem.W.InstAt s.heap a oe C none := by
    cases oe
    obtain ⟨rfl, rfl⟩ := hz
    cases hv
    exact ⟨hget, rfl, rfl, trivial⟩
  exact PySem.W.kia_one (PySem.W.handS_kitx_exc Cc.hg Cc.hk Cc.hs Cc.hd Cc.ha Cc.hn Cc.ht Cc.hm) I.kIn J e (fun z => nomatch z) fun tk => ⟨.bl b, H, I.kept (t' := tk) fun _ _ z => z, rfl, q⟩
def aIsE (K : PySem.W.Frag) (i : Nat) (a C : Addr) (cv : Value) : AEx := fun env P => env[i]? = some (.ln (exT a)) ∧ ∃ b, PySem.W.kitOne K (.ref C) cv = some b ∧ P (.bool b)
theorem je_isE {a C : Addr} {oe : Obj} {cv : Value} {c : V} (i : Nat) (hp : (a, oe) ∈ X.pn) (Cc : ExcC X.K C) (hz : Zc (.ref C) none oe) (hf : ∃ vs, oe.data = .fields vs) (hc : PE X (.Name y p2) (tC c)) (hcv : ∀ u, RelV c u → u = cv) (hm : X.mg x = none) (hv0 : bootBuiltins x = some (.builtin "isinstance"))
    (hg : Gl X x := by rfl) (hN : X.N[i]? = some n := by rfl) (hv : Vis X.env.scope n := by first | exact Or.inl rfl | exact Or.inr (Or.inl rfl) | exact Or.inr (Or.inr rfl)) (hd : (n == ("__debug__" : Str)) = false := by decide) (hcd : (n == ("__classdict__" : Str)) = false := by decide)
    (hn : x ≠ "__name__" := by decide) (hdb : (x == ("__debug__" : Str)) = false := by decide) (h1 : starEach [.Name n px, .Name y p2] X.env = (false, eval (.Name n px) X.env) :: starEach [.Name y p2] X.env := by rfl)
    (h2 : starEach [.Name y p2] X.env = (false, eval (.Name y p2) X.env) :: starEach [] X.env := by rfl) (hpl : (backTo pos (starEach [.Name y p2] X.env)).any (·.1) = false := by rfl) : JE X (.Call (.Name x p) [.Name n px, .Name y p2] [] pos) (aIsE X.K i a C cv) := by
  refine ⟨_, pe_callB (call_isP hp Cc hz hf) hg hm hv0 (pa_cons (pe_var hN hv hd hcd) (pa_cons hc pa_nil h2) h1) hn hdb h1 hpl, fun B F0 M T env σ H F R0 P p Q q => ?_⟩
  obtain ⟨p1, b, p2, p3⟩ := p
  obtain ⟨⟨v, g1, g2⟩, _⟩ := R0.ln i _ p1
  cases g2
  exact ⟨_, g1, c, cv, b, rfl, hcv, p2, q _ _ H F (.refl R0.bs) (.bl b) p3⟩
/-! x.count(e), x.index(e) -/
def rCountD (K : PySem.W.Frag) : V → List V → Hp → VK → Prop := fun x xs H Q => ∃ (a : Addr) (y : V) (d : PyData) (ds : List PyData), x = V.ref a ∧ xs = [y] ∧ Dp K H (V.ref a) (.list ds) ∧ Dp K H y d ∧
  SeqAt.shaped (.list ds) = true ∧ SeqAt.shaped d = true ∧ Q (.int (ds.countP fun z => PyData.eqv z d : Nat)) H
theorem mt_countD (hu : X.A.units + 65 < cLine) : MtR X "list.count" (rCountD X.K) := by
  intro pins s σ H x xs v us Q I rx rxs h
  obtain ⟨a, y, d, ds, rfl, rfl, hl, hy, sl, sd, q⟩ := h
  cases rx
  cases rxs with | cons ry rt =>
  rename_i uy ut
  cases rt
  obtain ⟨bs, r1⟩ := Dp.reads I d y uy hy ry
  have hxs : PyData.canLayAll0 ds = true := SeqAt.canLay_of_shaped sl
  have hroom : X.A.units + 1 + min (PyData.depthAll ds) d.depth < cLine := room_in_shaped sd hu
  cases hl with | lst hs ha =>
  obtain ⟨its, rv, ⟨⟨cls, dd, data, sls⟩, n, ho, hc, hdn, hdt⟩, hlen⟩ := I.list hs
  simp only at hc hdt
  subst hc hdt
  obtain ⟨as, h4⟩ := Dp.readsAll I ds _ its ha rv
  have hmap : its.map (SeqAt.readOf s.heap) = ds := SeqAt.readsAll_map ds its as hxs h4
  refine call_meets PySem.F.slot_list_count ⟨_, ho, rfl⟩ PySem.F.entry_list_count (PySem.F.args_list_count_2 _ _)
    (SeqAt.list_countAt a its.toArray n dd sls uy (fun u => PyData.eqv (SeqAt.readOf s.heap u) d)) ⟨ho, SeqAt.items_eqAt (vs := its.toArray) (show ReadsAll s.heap its.toArray.toList ds as from h4) r1 hxs (SeqAt.canLay_of_shaped sd) hroom, ?_⟩
  refine ⟨.int (ds.countP fun z => PyData.eqv z d : Nat), H, I.tok _, ⟨s.toks, ?_⟩, q⟩
  show Value.int ((its.toArray.toList.countP (fun u => PyData.eqv (SeqAt.readOf s.heap u) d) : Nat) : Int) s.toks = _
  rw [← hmap, List.countP_map]
  rfl
def dCount (ds : List DD) (y : DD) (P : DD → Prop) : Prop := SeqAt.shaped (.list ds) = true ∧ SeqAt.shaped y = true ∧ P (.int (ds.countP fun z => PyData.eqv z y : Nat))
def dIndex (ds : List DD) (y : DD) (P : DD → Prop) : Prop := ∃ (j : Nat) (z : DD), SeqAt.shaped (.list ds) = true ∧ SeqAt.shaped y = true ∧ ds[j]? = some z ∧ PyData.eqv z y = true ∧ (∀ (m : Nat) (z' : PyData), m < j → ds[m]? = some z' → PyData.eqv z' y = false) ∧ P (.int (j : Nat))
def aLm (ρ : List DD → DD → (DD → Prop) → Prop) (α β : AEx) : AEx := fun env P => α env fun x => ∃ ds, x = .list ds ∧ β env fun y => ρ ds y P
end
end Ab
namespace Ab
open PySem PySem.Spec PyProof.Rows L2
section
variable {X : Cx} {o e : Expr} {pos apos : Pos} {α β : AEx}
theorem j_count (hu : X.A.units + 65 < cLine) (ho : JE X o α) (he : JE X e β) (hbase : attributeBase o "count" X.env (eval o X.env) = eval o X.env := by rfl)
    (hfew : ((backTo pos (starEach [e] X.env)).all (fun x => !x.1) && (backToKw pos (keywordEach [] X.env)).all (fun x => x.1.isSome)
      && decide ([e].length + ([] : List Keyword).length + (if ([] : List Keyword).isEmpty then 0 else 1) < 30)) = true := by rfl)
    (hline : (apos.endLine == pos.line) = true := by rfl) (hs : starEach [e] X.env = (false, eval e X.env) :: starEach [] X.env := by rfl) (hplain : (backTo pos (starEach [] X.env)).any (·.1) = false := by rfl) :
    JE X (.Call (.Attribute o "count" apos) [e] [] pos) (aLm dCount α β) := by
  obtain ⟨t, h1, h2⟩ := ho.ex
  obtain ⟨u, g1, g2⟩ := he.ex
  refine ⟨_, pe_bm PySem.F.plainAttrs_list PySem.F.slot_list_count PySem.F.type_list_count (mt_countD hu) h1 (pa_cons g1 pa_nil hs) hbase hfew hline hs hplain, fun B F0 M T env σ H F R0 P p Q q => ?_⟩
  refine h2 B F0 M T env σ H F R0 _ p _ fun v d H1 F1 s1 d1 p1 => ?_
  obtain ⟨ds, rfl, p1⟩ := p1
  have d0 := d1
  cases d1 with | @lst r xs _ a b =>
  refine ⟨.inl ⟨rfl, _, .inl (.inl ((R0.step s1).sub _ _ a))⟩, g2 B F0 M T env σ H1 F1 (R0.step s1) _ p1 _ fun w d' H2 F2 s2 d2 p2 => ?_⟩
  obtain ⟨hs1, hs2, p2⟩ := p2
  exact ⟨r, w, d', ds, rfl, rfl, (Rp.sub s2.sub _ (Rp.sub s2.ext _ d0)).dp _ (SeqAt.canLay_of_shaped hs1), (Rp.sub s2.sub _ d2).dp _ (SeqAt.canLay_of_shaped hs2), hs1, hs2, q _ _ H2 F2 (s1.trans s2) (.int _) p2⟩
theorem j_index (hu : X.A.units + 65 < cLine) (ho : JE X o α) (he : JE X e β) (hbase : attributeBase o "index" X.env (eval o X.env) = eval o X.env := by rfl)
    (hfew : ((backTo pos (starEach [e] X.env)).all (fun x => !x.1) && (backToKw pos (keywordEach [] X.env)).all (fun x => x.1.isSome)
      && decide ([e].length + ([] : List Keyword).length + (if ([] : List Keyword).isEmpty then 0 else 1) < 30)) = true := by rfl)
    (hline : (apos.endLine == pos.line) = true := by rfl) (hs : starEach [e] X.env = (false, eval e X.env) :: starEach [] X.env := by rfl) (hplain : (backTo pos (starEach [] X.env)).any (·.1) = false := by rfl) :
    JE X (.Call (.Attribute o "index" apos) [e] [] pos) (aLm dIndex α β) := by
  obtain ⟨t, h1, h2⟩ := ho.ex
  obtain ⟨u, g1, g2⟩ := he.ex
  refine ⟨_, pe_bm PySem.F.plainAttrs_list PySem.F.slot_list_index PySem.F.type_list_index (mt_indexD hu) h1 (pa_cons g1 pa_nil hs) hbase hfew hline hs hplain, fun B F0 M T env σ H F R0 P p Q q => ?_⟩
  refine h2 B F0 M T env σ H F R0 _ p _ fun v d H1 F1 s1 d1 p1 => ?_
  obtain ⟨ds, rfl, p1⟩ := p1
  have d0 := d1
  cases d1 with | @lst r xs _ a b =>
  refine ⟨.inl ⟨rfl, _, .inl (.inl ((R0.step s1).sub _ _ a))⟩, g2 B F0 M T env σ H1 F1 (R0.step s1) _ p1 _ fun w d' H2 F2 s2 d2 p2 => ?_⟩
  obtain ⟨j, z, hs1, hs2, hz, he, hno, p2⟩ := p2
  exact ⟨r, w, d', ds, j, z, rfl, rfl, (Rp.sub s2.sub _ (Rp.sub s2.ext _ d0)).dp _ (SeqAt.canLay_of_shaped hs1), (Rp.sub s2.sub _ d2).dp _ (SeqAt.canLay_of_shaped hs2), hs1, hs2, hz, he, hno, q _ _ H2 F2 (s1.trans s2) (.int _) p2⟩
end
end Ab
namespace Ab
open PySem PySem.Spec PyProof.Rows L2 L2H
structure ClE (P : Program) (w : World) (K : PySem.W.Frag) (mg : Str → Option Value) (base : Heap) (k : Nat) (x : Str) (W : WtE) : Prop where
  ex : ∃ (f : Addr) (fd : FuncData) (ps : List Str), FnE P w K mg base k f fd ps W ∧ mg x = some (.ref f) ∧ PySem.W.keepIn K (.ref f) = true ∧ L2.Binds K fd ps []
theorem ClE.mono {P : Program} {w : World} {K : PySem.W.Frag} {mg : Str → Option Value} {base : Heap} {j k : Nat} {x : Str} {W : WtE} (h : ClE P w K mg base j x W) (l : j ≤ k) : ClE P w K mg base k x W := by
  obtain ⟨f, fd, ps, h1, h2⟩ := h.ex
  exact ⟨f, fd, ps, h1.mono l, h2⟩
theorem j_exc {X : Cx} {pos p px : Pos} {x n : Str} {k : Nat} {a C : Addr} {oe : Obj} {pn : List (Addr × Obj)} {W : WtE} (i : Nat) (hz : Zc (.ref C) none oe) (hfl : ∃ vs, oe.data = .fields vs) (c : ClE X.prog X.w X.K X.mg X.base k x W) (hr : RoomH k (X.suite a ((a, oe) :: pn)).A)
    (hg : Gl (X.suite a ((a, oe) :: pn)) x := by rfl) (hdb : (x == ("__debug__" : Str)) = false := by decide)
    (hN : X.N[i]? = some n := by rfl) (hv : Vis X.env.scope n := by first | exact Or.inl rfl | exact Or.inr (Or.inl rfl) | exact Or.inr (Or.inr rfl)) (hd : (n == ("__debug__" : Str)) = false := by decide) (hcd : (n == ("__classdict__" : Str)) = false := by decide)
    (he : starEach [.Name n px] X.env = (false, eval (.Name n px) X.env) :: starEach [] X.env := by rfl) (hpl : (backTo pos (starEach [] X.env)).any (·.1) = false := by rfl) : JE (X.suite a ((a, oe) :: pn)) (.Call (.Name x p) [.Name n px] [] pos) (aExc i a C W) := by
  obtain ⟨f, fd, ps, h1, h2, h3, h4⟩ := c.ex
  exact j_excF i hz hfl h1 hr h2 h3 h4 hg hdb hN hv hd hcd he hpl
/-! a table of the top that has not some names -/
structure Tbl2 (K : PySem.W.Frag) (w : World) (mg : Str → Option Value) (x : Str) (tb : List (Str × Int)) (no : List Str) : Prop where
  ex : ∃ d es n, KDict K w d es n ∧ mg x = some (.ref d) ∧ (∀ p ∈ tb, ∃ t, PySem.W.nsIn K d p.1 = some (some (.int p.2 t))) ∧ ∀ z ∈ no, PySem.W.nsIn K d z = some none
theorem Tbl2.tbl {K : PySem.W.Frag} {w : World} {mg : Str → Option Value} {x : Str} {tb : List (Str × Int)} {no : List Str} (h : Tbl2 K w mg x tb no) : Tbl K w mg x tb := by
  obtain ⟨d, es, n, h1, h2, h3, _⟩ := h.ex
  exact ⟨d, es, n, h1, h2, h3⟩
def aNiTab2 (tb : List (Str × Int)) (no : List Str) (α : AEx) : AEx := fun env P => α env fun y => ∃ z, y = .str z ∧ ((∃ n, (z, n) ∈ tb ∧ P (.bool false)) ∨ (z ∈ no ∧ P (.bool true)))
section
variable {X : Cx} {e : Expr} {pos : Pos} {x : Str} {α : AEx}
theorem j_niTab2 {tb : List (Str × Int)} {no : List Str} {p2 : Pos} (T : Tbl2 X.K X.w X.mg x tb no) (he : JE X e α) (hg : Gl X x := by rfl) (hdb : (x == ("__debug__" : Str)) = false := by decide) (hm : behindInMarks .NotIn (.Name x p2) = false := by rfl) : JE X (.Compare e [.NotIn] [.Name x p2] pos) (aNiTab2 tb no α) := by
  obtain ⟨d, es, n, D, gm, ht, hn⟩ := T.ex
  obtain ⟨t, a1, a2⟩ := he.ex
  refine ⟨_, pe_cmpR (op_notIn_kd D) a1 (pe_glob (v := .ref d) hg gm rfl hdb) hm, fun B F0 M T' env σ H F R0 P p Q q => ?_⟩
  refine a2 B F0 M T' env σ H F R0 _ p _ fun v d1 H1 F1 s1 r1 p1 => ?_
  obtain ⟨z, rfl, p1⟩ := p1
  cases r1
  rcases p1 with ⟨m, hz, p1⟩ | ⟨hz, p1⟩
  · obtain ⟨tk, ek⟩ := ht _ hz
    exact ⟨z, _, rfl, rfl, ek, q _ _ H1 F1 s1 (.bl _) p1⟩
  · exact ⟨z, _, rfl, rfl, hn z hz, q _ _ H1 F1 s1 (.bl _) p1⟩
end
end Ab
namespace Ab
open PySem PySem.Spec PyProof.Rows L2
section
variable {X : Cx} {c a b : Expr} {p : Pos} {τ : ATx} {α β : AXx}
theorem jx_if (h : JT X c τ) (ha : JEX X a α) (hb : JEX X b β) : JEX X (.IfExp c a b p) (fun env P PE => τ env fun k => (k = true → α env P PE) ∧ (k = false → β env P PE)) := ⟨fun W tk => by
  obtain ⟨t, h1, h2⟩ := h.ex
  refine pe_imp (pe_ifExp h1 (ha.ex W tk) (hb.ex W tk)) fun σ H Q ⟨B, F0, M, T, env, F, R0, P, PE, p, q, r⟩ => ?_
  refine h2 B F0 M T env σ H F R0 _ p _ fun k H1 F1 s1 p1 => ?_
  cases k with
  | true => exact (if_pos rfl).mpr ⟨B, F0, M, T, env, F1, R0.step s1, P, PE, p1.1 rfl, fun v d H' F' s2 => q v d H' F' (s1.trans s2), fun C H' F' s2 => r C H' F' (s1.trans s2)⟩
  | false => exact (if_neg Bool.false_ne_true).mpr ⟨B, F0, M, T, env, F1, R0.step s1, P, PE, p1.2 rfl, fun v d H' F' s2 => q v d H' F' (s1.trans s2), fun C H' F' s2 => r C H' F' (s1.trans s2)⟩⟩
end
end Ab
namespace Ab
open PySem PySem.Spec PyProof.Rows L2
section
variable {X : Cx} {pos p p2 px : Pos} {x y n : Str}
theorem je_isEo {a C D : Addr} {oe : Obj} (K0 : PySem.W.Frag) (i : Nat) (hp : (a, oe) ∈ X.pn) (Cc : ExcC X.K C) (hz : Zc (.ref C) none oe) (hf : ∃ vs, oe.data = .fields vs) (gy : X.mg y = some (.ref D)) (hm : X.mg x = none) (hv0 : bootBuiltins x = some (.builtin "isinstance"))
    (hK : X.K = K0 := by rfl) (hgy : Gl X y := by rfl) (hdy : (y == ("__debug__" : Str)) = false := by decide)
    (hg : Gl X x := by rfl) (hN : X.N[i]? = some n := by rfl) (hv : Vis X.env.scope n := by first | exact Or.inl rfl | exact Or.inr (Or.inl rfl) | exact Or.inr (Or.inr rfl)) (hd : (n == ("__debug__" : Str)) = false := by decide) (hcd : (n == ("__classdict__" : Str)) = false := by decide)
    (hn : x ≠ "__name__" := by decide) (hdb : (x == ("__debug__" : Str)) = false := by decide) (h1 : starEach [.Name n px, .Name y p2] X.env = (false, eval (.Name n px) X.env) :: starEach [.Name y p2] X.env := by rfl)
    (h2 : starEach [.Name y p2] X.env = (false, eval (.Name y p2) X.env) :: starEach [] X.env := by rfl) (hpl : (backTo pos (starEach [.Name y p2] X.env)).any (·.1) = false := by rfl) : JE X (.Call (.Name x p) [.Name n px, .Name y p2] [] pos) (aIsE K0 i a C (.ref D)) := by
  subst hK
  exact je_isE i hp Cc hz hf (pe_glob (v := .ref D) hgy gy rfl hdy) (fun _ h => h) hm hv0 hg hN hv hd hcd hn hdb h1 h2 hpl
theorem je_isEb {a C : Addr} {T : String} {oe : Obj} (K0 : PySem.W.Frag) (i : Nat) (hp : (a, oe) ∈ X.pn) (Cc : ExcC X.K C) (hz : Zc (.ref C) none oe) (hf : ∃ vs, oe.data = .fields vs) (gy : X.mg y = none) (by_ : bootBuiltins y = some (.type T)) (hm : X.mg x = none) (hv0 : bootBuiltins x = some (.builtin "isinstance"))
    (hK : X.K = K0 := by rfl) (hgy : Gl X y := by rfl) (hny : y ≠ "__name__" := by decide) (hdy : (y == ("__debug__" : Str)) = false := by decide)
    (hg : Gl X x := by rfl) (hN : X.N[i]? = some n := by rfl) (hv : Vis X.env.scope n := by first | exact Or.inl rfl | exact Or.inr (Or.inl rfl) | exact Or.inr (Or.inr rfl)) (hd : (n == ("__debug__" : Str)) = false := by decide) (hcd : (n == ("__classdict__" : Str)) = false := by decide)
    (hn : x ≠ "__name__" := by decide) (hdb : (x == ("__debug__" : Str)) = false := by decide) (h1 : starEach [.Name n px, .Name y p2] X.env = (false, eval (.Name n px) X.env) :: starEach [.Name y p2] X.env := by rfl)
    (h2 : starEach [.Name y p2] X.env = (false, eval (.Name y p2) X.env) :: starEach [] X.env := by rfl) (hpl : (backTo pos (starEach [.Name y p2] X.env)).any (·.1) = false := by rfl) : JE X (.Call (.Name x p) [.Name n px, .Name y p2] [] pos) (aIsE K0 i a C (.type T)) := by
  subst hK
  exact je_isE i hp Cc hz hf (pe_bltn (v := .ty T) hgy gy by_ rfl hny hdy) (fun _ h => h) hm hv0 hg hN hv hd hcd hn hdb h1 h2 hpl
end
end Ab
namespace Ab
open PySem PySem.Spec PyProof.Rows L2
section
variable {X : Cx} {a : Expr} {pos p p1 p2 : Pos} {α : AEx}
/-- list(range(n)) -/
def aLrg (α : AEx) : AOx := fun env P => α env fun d => ∃ n : Nat, d = .int (n : Int) ∧ n ≤ 1000 ∧ P ((List.range n).map fun (i : Nat) => PyData.int (i : Int))
theorem jo_lrg (hc : X.calm = true) (hm : X.mg "list" = none) (hm2 : X.mg "range" = none) (ha : JE X a α) (hg : Gl X "list" := by rfl) (hg2 : Gl X "range" := by rfl)
    (na : starEach [a] X.env = (false, eval a X.env) :: starEach [] X.env := by rfl) (na2 : starEach [.Call (.Name "range" p1) [a] [] p2] X.env = (false, eval (.Call (.Name "range" p1) [a] [] p2) X.env) :: starEach [] X.env := by rfl) :
    JO X (.Call (.Name "list" p) [.Call (.Name "range" p1) [a] [] p2] [] pos) (aLrg α) := by
  obtain ⟨t, h1, h2⟩ := ha.ex
  refine ⟨_, pe_listRg hc hg hm (prg_1 hg2 hm2 h1 na) na2, fun B F0 M T env σ H F R0 P p Q q => ?_⟩
  refine h2 B F0 M T env σ H F R0 _ p _ fun v d H1 F1 s1 d1 p1 => ?_
  obtain ⟨n, rfl, hn, p1⟩ := p1
  cases d1
  refine ⟨n, rfl, .of_le (by omega) (by omega) (by omega) (by omega), fun r hr => ?_⟩
  have b1 := (R0.step s1).bs
  have nF : F1 r = none := by
    cases z : F1 r with
    | none => rfl
    | some o => rw [b1.sub r o z] at hr; cases hr
  have e : rgV 0 (n : Int) = (List.range n).map fun (i : Nat) => V.int (i : Int) := by
    unfold rgV
    rw [Int.sub_zero, Int.toNat_natCast]
    exact List.map_congr_left fun i _ => by rw [Int.zero_add]
  rw [e]
  have rp : ∀ l : List Nat, RpAll (kw X) F1 (l.map fun (i : Nat) => V.int (i : Int)) (l.map fun (i : Nat) => PyData.int (i : Int)) := fun l => by
    induction l with
    | nil => exact .nil
    | cons x l ih => exact .cons (.int _) ih
  exact q r _ _ _ F1 (s1.trans (Stp.al0 b1 hr)) upd_same nF (s1.dom hr) (rp _) p1
end
end Ab
namespace Ab
open PySem PySem.Spec PyProof.Rows L2
section
variable {X : Cx} {e : Expr} {pos : Pos} {x : Str} {α : AEx}
theorem jt_niTab2 {tb : List (Str × Int)} {no : List Str} {p2 : Pos} (T : Tbl2 X.K X.w X.mg x tb no) (he : JE X e α) (hg : Gl X x := by rfl) (hdb : (x == ("__debug__" : Str)) = false := by decide) (hm : behindInMarks .NotIn (.Name x p2) = false := by rfl) : JT X (.Compare e [.NotIn] [.Name x p2] pos) (aT (aNiTab2 tb no α)) := by
  obtain ⟨d, es, n, D, gm, ht, hn⟩ := T.ex
  obtain ⟨t, a1, a2⟩ := he.ex
  refine ⟨_, pt_cmpR (op_notIn_kd D) a1 (pe_glob (v := .ref d) hg gm rfl hdb) hm, sim_test fun B F0 M T' env σ H F R0 P p Q q => ?_⟩
  refine a2 B F0 M T' env σ H F R0 _ p _ fun v d1 H1 F1 s1 r1 p1 => ?_
  obtain ⟨z, rfl, p1⟩ := p1
  cases r1
  rcases p1 with ⟨m, hz, p1⟩ | ⟨hz, p1⟩
  · obtain ⟨tk, ek⟩ := ht _ hz
    exact ⟨z, _, rfl, rfl, ek, q _ _ H1 F1 s1 (.bl _) p1⟩
  · exact ⟨z, _, rfl, rfl, hn z hz, q _ _ H1 F1 s1 (.bl _) p1⟩
end
end Ab

/-! texts -/
namespace Ab
open PySem PySem.Spec PyProof.Rows L2
/-! tables of the top with text keys and any flat values -/
def leafV : DD → V → Prop
  | .int i, v => v = .int i
  | .none, v => v = .non
  | _, _ => False
structure Tb (K : PySem.W.Frag) (w : World) (mg : Str → Option Value) (x : Str) (tb : List (Str × DD)) : Prop where
  ex : ∃ d es n, KDict K w d es n ∧ mg x = some (.ref d) ∧ (∀ p ∈ tb, ∃ u v, PySem.W.nsIn K d p.1 = some (some u) ∧ leafV p.2 v ∧ RelV v u) ∧ ∀ z, z ∉ tb.map (·.1) → PySem.W.nsIn K d z = some none
def lookT (tb : List (Str × DD)) (z : Str) : Option DD := (tb.find? fun p => p.1 == z).map (·.2)
theorem lookT_some {tb : List (Str × DD)} {z : Str} {d : DD} (h : lookT tb z = some d) : (z, d) ∈ tb := by
  unfold lookT at h
  cases e : tb.find? (fun p => p.1 == z) with
  | none => rw [e] at h; cases h
  | some p =>
    rw [e] at h
    cases h
    have h1 := List.find?_some e
    have h2 := List.mem_of_find?_eq_some e
    have h3 : p.1 = z := by simpa using h1
    rw [← h3]
    exact h2
theorem lookT_none {tb : List (Str × DD)} {z : Str} (h : lookT tb z = none) : z ∉ tb.map (·.1) := by
  unfold lookT at h
  cases e : tb.find? (fun p => p.1 == z) with
  | some p => rw [e] at h; cases h
  | none =>
    intro hm
    obtain ⟨p, hp, rfl⟩ := List.mem_map.mp hm
    have := List.find?_eq_none.mp e p hp
    simp at this
theorem leaf_rp {K : KW} {F : Hp} {d : DD} {v : V} (h : leafV d v) : Rp K F v d := by
  cases d with
  | int i => cases h; exact .int i
  | none => cases h; exact .non
  | _ => cases h
section
variable {X : Cx} {e o a b : Expr} {pos p p2 apos cpos : Pos} {x : Str} {α β : AEx} {tb : List (Str × DD)}
def aNiT (tb : List (Str × DD)) (α : AEx) : AEx := fun env P => α env fun y => ∃ z, y = .str z ∧ P (.bool (lookT tb z).isNone)
theorem niT_ok {K : KW} {Kf : PySem.W.Frag} {d : Addr} {t : TE} (ht : ∀ p ∈ tb, ∃ u v, PySem.W.nsIn Kf d p.1 = some (some u) ∧ leafV p.2 v ∧ RelV v u) (hn : ∀ z, z ∉ tb.map (·.1) → PySem.W.nsIn Kf d z = some none) (h : SimE K t α) :
    SimE K (tOp (fun x y H Q => ∃ (z : Str) (r : Option Value), x = .str z ∧ y = .ref d ∧ PySem.W.nsIn Kf d z = some r ∧ Q (.bl (!r.isSome)) H) t (tC (.ref d))) (aNiT tb α) := fun B F0 M T' env σ H F R0 P p Q q => by
  refine h B F0 M T' env σ H F R0 _ p _ fun v d1 H1 F1 s1 r1 p1 => ?_
  obtain ⟨z, rfl, p1⟩ := p1
  cases r1
  cases e : lookT tb z with
  | some d0 =>
    obtain ⟨u, v0, e1, _, _⟩ := ht _ (lookT_some e)
    rw [e] at p1
    exact ⟨z, _, rfl, rfl, e1, q _ _ H1 F1 s1 (.bl _) p1⟩
  | none =>
    rw [e] at p1
    exact ⟨z, _, rfl, rfl, hn z (lookT_none e), q _ _ H1 F1 s1 (.bl _) p1⟩
theorem j_niT (T : Tb X.K X.w X.mg x tb) (he : JE X e α) (hg : Gl X x := by rfl) (hdb : (x == ("__debug__" : Str)) = false := by decide) (hm : behindInMarks .NotIn (.Name x p2) = false := by rfl) : JE X (.Compare e [.NotIn] [.Name x p2] pos) (aNiT tb α) := by
  obtain ⟨d, es, n, D, gm, ht, hn⟩ := T.ex
  obtain ⟨t, a1, a2⟩ := he.ex
  exact ⟨_, pe_cmpR (op_notIn_kd D) a1 (pe_glob (v := .ref d) hg gm rfl hdb) hm, niT_ok ht hn a2⟩
theorem jt_niT (T : Tb X.K X.w X.mg x tb) (he : JE X e α) (hg : Gl X x := by rfl) (hdb : (x == ("__debug__" : Str)) = false := by decide) (hm : behindInMarks .NotIn (.Name x p2) = false := by rfl) : JT X (.Compare e [.NotIn] [.Name x p2] pos) (aT (aNiT tb α)) := by
  obtain ⟨d, es, n, D, gm, ht, hn⟩ := T.ex
  obtain ⟨t, a1, a2⟩ := he.ex
  exact ⟨_, pt_cmpR (op_notIn_kd D) a1 (pe_glob (v := .ref d) hg gm rfl hdb) hm, sim_test (niT_ok ht hn a2)⟩
def aIxT (tb : List (Str × DD)) (α : AEx) : AEx := fun env P => α env fun y => ∃ z d, y = .str z ∧ lookT tb z = some d ∧ P d
theorem j_ixT (T : Tb X.K X.w X.mg x tb) (he : JE X e α) (hg : Gl X x := by rfl) (hdb : (x == ("__debug__" : Str)) = false := by decide) (hs : PlainIx e := by intro _ _; rfl) : JE X (.Subscript (.Name x p2) e pos) (aIxT tb α) := by
  obtain ⟨d, es, n, D, gm, ht, hn⟩ := T.ex
  obtain ⟨t, a1, a2⟩ := he.ex
  refine ⟨_, pe_ix ix_kdict (pe_glob (v := .ref d) hg gm rfl hdb) a1 hs, fun B F0 M T' env σ H F R0 P p Q q => ?_⟩
  refine a2 B F0 M T' env σ H F R0 _ p _ fun v d1 H1 F1 s1 r1 p1 => ?_
  obtain ⟨z, d0, rfl, hz, p1⟩ := p1
  obtain ⟨u, v0, e1, e2, e3⟩ := ht _ (lookT_some hz)
  cases r1
  exact ⟨d, z, v0, rfl, rfl, ⟨es, n, u, D.at_, D.lit, e1, e3⟩, q _ _ H1 F1 s1 (leaf_rp e2) p1⟩
def rKGet (K : PySem.W.Frag) (d : Addr) (ty : TE) : TE := fun σ H Q => ty σ H fun y H2 => ∃ z r v, y = .str z ∧ PySem.W.nsIn K d z = some r ∧ RelV v (r.getD .none) ∧ Q v H2
theorem pe_kget1 {d : Addr} {es : Array DictEntry} {n : Nat} {td ty : TE} (D : KDict X.K X.w d es n) (ho : PE X o (tC (.ref d))) (he : PE X e ty) (m : M1 X o "get" apos e cpos) : PE X (.Call (.Attribute o "get" apos) [e] [] cpos) (rKGet X.K d ty) := by
  refine ⟨fun pins s σ H Q I h => ?_⟩
  refine wpAny_Call_method m.base m.few m.line PySem.F.plainAttrs_dict PySem.F.slot_dict_get PySem.F.type_dict_get (thn (ho.run pins s σ H (fun v H1 => v = .ref d ∧ ty σ H1 fun y H2 => ∃ z r v, y = .str z ∧ PySem.W.nsIn X.K d z = some r ∧ RelV v (r.getD .none) ∧ Q v H2) I ⟨rfl, h⟩) fun u s1 ⟨x, H1, I1, rx, ex, q1⟩ => ?_)
  subst ex
  obtain rfl : u = Value.ref d := rx
  have mp := PySem.W.mapOf_K (prog := X.prog) (w := X.w) I1.kIn D.at_ D.lit
  refine ⟨mp.typeIs, fun b q => ?_, ?_⟩
  · cases q
    exact ⟨_, I1.kIn _ _ D.at_, rfl⟩
  · rw [m.trees]
    refine Calls.callWith_builtin rfl (Calls.evalArgs_plain (Calls.spliced_cons (thn (he.run pins s1 σ H1 _ I1 q1) fun iv s2 ⟨y, H2, I2, ry, z, r, v, ey, e2, rv, q2⟩ => Calls.spliced_nil ?_)))
    subst ey
    obtain ⟨t, rfl⟩ := ry
    have mp2 := PySem.W.mapOf_K (prog := X.prog) (w := X.w) I2.kIn D.at_ D.lit
    refine call_meetsIn PySem.F.slot_dict_get mp2.typeIs PySem.F.entry_dict_get (PySem.F.args_dict_get_2 _ _) (meets_dict_get (strKind X.prog X.w) d (PySem.strKind_is X.prog X.w z t) D.low) ⟨_, mp2, v, H2, I2.tok _, ?_, q2⟩
    rw [PySem.W.find_K D.at_ e2]
    exact rv
def aGetT (tb : List (Str × DD)) (α : AEx) : AEx := fun env P => α env fun y => ∃ z, y = .str z ∧ P ((lookT tb z).getD .none)
theorem j_getT (T : Tb X.K X.w X.mg x tb) (he : JE X e α) (hg : Gl X x := by rfl) (hdb : (x == ("__debug__" : Str)) = false := by decide) (m : M1 X (.Name x p2) "get" apos e cpos := by exact ⟨rfl, rfl, rfl, rfl⟩) : JE X (.Call (.Attribute (.Name x p2) "get" apos) [e] [] cpos) (aGetT tb α) := by
  obtain ⟨d, es, n, D, gm, ht, hn⟩ := T.ex
  obtain ⟨t, a1, a2⟩ := he.ex
  refine ⟨_, pe_kget1 (td := tC (.ref d)) D (pe_glob (v := .ref d) hg gm rfl hdb) a1 m, fun B F0 M T' env σ H F R0 P p Q q => ?_⟩
  refine a2 B F0 M T' env σ H F R0 _ p _ fun v d1 H1 F1 s1 r1 p1 => ?_
  obtain ⟨z, rfl, p1⟩ := p1
  cases r1
  cases e : lookT tb z with
  | some d0 =>
    obtain ⟨u, v0, e1, e2, e3⟩ := ht _ (lookT_some e)
    rw [e] at p1
    exact ⟨z, _, v0, rfl, e1, e3, q _ _ H1 F1 s1 (leaf_rp e2) p1⟩
  | none =>
    rw [e] at p1
    exact ⟨z, _, .non, rfl, hn z (lookT_none e), rfl, q _ _ H1 F1 s1 .non p1⟩
end
end Ab
namespace Ab
open PySem PySem.Spec PyProof.Rows L2
/-! signs -/
abbrev sg (c : Nat) : Str := ⟨#[c]⟩
def sgs (z : Str) : List DD := z.cps.toList.map fun c => .str (sg c)
section
variable {X : Cx} {e o a b : Expr} {pos p p2 apos cpos : Pos} {x : Str} {α β : AEx}
/-- for a sign of a text -/
def iS (α : AEx) : AOx := fun env P => α env fun x => ∃ z, x = .str z ∧ P (sgs z)
theorem ji_str {tg : Expr} (he : JE X e α) : JI X tg e (iS α) := by
  obtain ⟨t, a1, a2⟩ := he.ex
  refine ⟨_, pi_str a1, fun B F0 M T env σ H F R0 P p Q q => a2 B F0 M T env σ H F R0 _ p _ fun v d H1 F1 s1 d1 p1 => ?_⟩
  obtain ⟨z, rfl, p1⟩ := p1
  cases d1
  refine ⟨z, rfl, q _ (sgs z) H1 F1 s1 (fun T i H F b sb => ⟨fun hi => ?_, fun hi => ?_⟩) p1⟩
  · have hz : i < z.cps.size := by simpa [sgs] using hi
    refine ⟨hz, fun x H' y => ?_⟩
    obtain ⟨rfl, c, hc, rfl⟩ := y
    refine ⟨F, .str (sg c), ?_, .refl b, .str _⟩
    unfold sgs
    rw [List.getElem?_map, Array.getElem?_toList, hc]
    rfl
  · show z.cps.size ≤ i
    simpa [sgs] using hi
/-- s + t -/
def dCatS : DD → DD → (DD → Prop) → Prop := fun x y P => ∃ i j, x = .str i ∧ y = .str j ∧ i.length + j.length ≤ lineD ∧ P (.str (i ++ j))
theorem sr_catS {K : KW} : SimR K (fun x y H Q => ∃ i j, x = .str i ∧ y = .str j ∧ i.length + j.length ≤ sizeLine ∧ Q (.str (i ++ j)) H) dCatS := fun T H F x y dx dy b hx hy P p Q q => by
  obtain ⟨i, j, rfl, rfl, h, p⟩ := p
  cases hx
  cases hy
  exact ⟨i, j, rfl, rfl, line_le h, q _ _ H F (.refl b) (.str _) p⟩
theorem j_catS (ha : JE X a α) (hb : JE X b β) : JE X (.BinOp a .Add b pos) (aB dCatS α β) := j_op op_add_str sr_catS ha hb
/-- s[lo:hi] -/
def aSlS (α : AEx) (l h : APx) : AEx := fun env P => α env fun x => l env fun lo => h env fun hi => ∃ z, x = .str z ∧ z.length ≤ lineD ∧ P (.str (cutS z lo hi))
theorem j_slS {lo hi : Option Expr} {l h : APx} (he : JE X e α) (hl : JP X lo l) (hh : JP X hi h) : JE X (.Subscript e (.Slice lo hi none p2) pos) (aSlS α l h) := by
  obtain ⟨t, h1, h2⟩ := he.ex
  obtain ⟨tl, l1, l2⟩ := hl.ex
  obtain ⟨th, u1, u2⟩ := hh.ex
  refine ⟨_, pe_slice sl_str h1 l1 u1, fun B F0 M T env σ H F R0 P p Q q => h2 B F0 M T env σ H F R0 _ p _ fun v d H1 F1 s1 d1 p1 => l2 B F0 M T env σ H1 F1 (R0.step s1) _ p1 _ fun o H2 F2 s2 p2 => u2 B F0 M T env σ H2 F2 ((R0.step s1).step s2) _ p2 _ fun o' H3 F3 s3 p3 => ?_⟩
  obtain ⟨z, rfl, hz, p3⟩ := p3
  cases d1
  exact ⟨z, rfl, line_le hz, q _ _ H3 F3 ((s1.trans s2).trans s3) (.str _) p3⟩
/-- len of a text -/
def dLenS : List DD → (DD → Prop) → Prop := fun ds P => ∃ z, ds = [.str z] ∧ z.length ≤ lineD ∧ P (.int z.length)
theorem sc_lenS {K : KW} : SimC K (fun xs H Q => ∃ z, xs = [.str z] ∧ z.length ≤ sizeLine ∧ Q (.int z.length) H) dLenS := fun T H F vs ds b hd P p Q q => by
  obtain ⟨z, rfl, hz, p⟩ := p
  obtain ⟨v, rfl, r⟩ := one_of hd
  cases r
  exact ⟨z, rfl, line_le hz, q _ _ H F (.refl b) (.int _) p⟩
/-- str(i) -/
def dStr : List DD → (DD → Prop) → Prop := fun ds P => ∃ i : Int, ds = [.int i] ∧ i.natAbs ≤ 1000 ∧ P (.str (toString i))
theorem sc_str {K : KW} : SimC K (fun xs H Q => ∃ i, xs = [.int i] ∧ i.natAbs.log2 < 1920 ∧ Q (.str (toString i)) H) dStr := fun T H F vs ds b hd P p Q q => by
  obtain ⟨i, rfl, hi, p⟩ := p
  obtain ⟨v, rfl, r⟩ := one_of hd
  cases r
  refine ⟨i, rfl, ?_, q _ _ H F (.refl b) (.str _) p⟩
  by_cases z : i.natAbs = 0
  · rw [z]; decide
  · have h1 : i.natAbs.log2 < 10 := (Nat.log2_lt z).mpr (Nat.lt_of_le_of_lt hi (by decide))
    omega
/-- int(text) -/
def dIntS : List DD → (DD → Prop) → Prop := fun ds P => ∃ z n, ds = [.str z] ∧ PySem.intText? z = some n ∧ z.length ≤ 640 ∧ P (.int n)
theorem sc_intS {K : KW} : SimC K (fun xs H Q => ∃ a n, xs = [.str a] ∧ PySem.intText? a = some n ∧ a.length ≤ 640 ∧ Q (.int n) H) dIntS := fun T H F vs ds b hd P p Q q => by
  obtain ⟨z, n, rfl, e, hz, p⟩ := p
  obtain ⟨v, rfl, r⟩ := one_of hd
  cases r
  exact ⟨z, n, rfl, e, hz, q _ _ H F (.refl b) (.int _) p⟩
/-- a sign in a text -/
def dInS : DD → DD → (DD → Prop) → Prop := fun x y P => ∃ (c : Nat) (z : Str), x = .str (sg c) ∧ y = .str z ∧ P (.bool (decide (c ∈ z.cps.toList)))
theorem sr_inS {K : KW} : SimR K (fun x y H Q => ∃ (c : Nat) (z : Str), x = .str ⟨#[c]⟩ ∧ y = .str z ∧ Q (.bl (decide (c ∈ z.cps.toList))) H) dInS := fun T H F x y dx dy b hx hy P p Q q => by
  obtain ⟨c, z, rfl, rfl, p⟩ := p
  cases hx
  cases hy
  exact ⟨c, z, rfl, rfl, q _ _ H F (.refl b) (.bl _) p⟩
theorem j_inS (ha : JE X a α) (hb : JE X b β) (hm : behindInMarks .In b = false := by rfl) : JE X (.Compare a [.In] [b] pos) (aB dInS α β) := j_cmp op_in_sign sr_inS ha hb hm
/-- s.join(xs) -/
def aJoin (α β : AEx) : AEx := fun env P => α env fun x => ∃ z : Str, x = .str z ∧ β env fun y => ∃ ys : List Str, y = .list (ys.map .str) ∧ (ys.map (·.length)).sum + ys.length * z.length ≤ 1000000 ∧ P (.str (Txt.join z ys))
theorem strs_of {K : KW} {F : Hp} : ∀ {vs : List V} {ys : List Str}, RpAll K F vs (ys.map .str) → vs = ys.map V.str
  | _, [], h => by cases h; rfl
  | _, y :: ys, h => by
    cases h with | cons a b =>
    cases a
    rw [strs_of b]; rfl
theorem j_join (ho : JE X o α) (he : JE X e β) (hs : starEach [e] X.env = [(false, eval e X.env)] := by rfl) (hbase : attributeBase o "join" X.env (eval o X.env) = eval o X.env := by rfl) (hline : (apos.endLine == pos.line) = true := by rfl) : JE X (.Call (.Attribute o "join" apos) [e] [] pos) (aJoin α β) := by
  obtain ⟨t, h1, h2⟩ := ho.ex
  obtain ⟨u, g1, g2⟩ := he.ex
  refine ⟨_, pe_join h1 g1 hs hbase hline, fun B F0 M T env σ H F R0 P p Q q => h2 B F0 M T env σ H F R0 _ p _ fun v d H1 F1 s1 d1 p1 => ?_⟩
  obtain ⟨z, rfl, p1⟩ := p1
  cases d1
  refine ⟨⟨z, rfl⟩, g2 B F0 M T env σ H1 F1 (R0.step s1) _ p1 _ fun w d' H2 F2 s2 d2 p2 => ?_⟩
  obtain ⟨ys, rfl, hl, p2⟩ := p2
  cases d2 with
  | @lst l vs _ g3 g4 =>
    have e := strs_of g4
    subst e
    exact ⟨z, l, ys, rfl, rfl, .inl (.inl (.inl ((R0.step (s1.trans s2)).sub _ _ g3))), Nat.le_trans hl (by decide), q _ _ H2 F2 (s1.trans s2) (.str _) p2⟩
/-- s.split(t) -/
def aSplit (α β : AEx) : AOx := fun env P => α env fun x => ∃ z, x = .str z ∧ β env fun y => ∃ t, y = .str t ∧ (t.length == 0) = false ∧ z.length ≤ lineD ∧ P ((Txt.split z t).map .str)
theorem rp_strs {K : KW} {F : Hp} : ∀ ys : List Str, RpAll K F (ys.map V.str) (ys.map .str)
  | [] => .nil
  | y :: ys => .cons (.str y) (rp_strs ys)
theorem jo_split (ho : JE X o α) (he : JE X e β) (hs : starEach [e] X.env = [(false, eval e X.env)] := by rfl) (hbase : attributeBase o "split" X.env (eval o X.env) = eval o X.env := by rfl) (hline : (apos.endLine == pos.line) = true := by rfl) : JO X (.Call (.Attribute o "split" apos) [e] [] pos) (aSplit α β) := by
  obtain ⟨t, h1, h2⟩ := ho.ex
  obtain ⟨u, g1, g2⟩ := he.ex
  refine ⟨_, pe_split h1 g1 hs hbase hline, fun B F0 M T env σ H F R0 P p Q q => h2 B F0 M T env σ H F R0 _ p _ fun v d H1 F1 s1 d1 p1 => ?_⟩
  obtain ⟨z, rfl, p1⟩ := p1
  cases d1
  refine ⟨⟨z, rfl⟩, g2 B F0 M T env σ H1 F1 (R0.step s1) _ p1 _ fun w d' H2 F2 s2 d2 p2 => ?_⟩
  obtain ⟨y, rfl, hy, hz, p2⟩ := p2
  cases d2
  refine ⟨z, y, rfl, rfl, hy, Nat.le_trans (Nat.add_le_add_right hz 2) (by decide), fun r hr => ?_⟩
  have b2 := (R0.step (s1.trans s2)).bs
  have nF : F2 r = none := by
    cases z : F2 r with
    | none => rfl
    | some o => rw [b2.sub r o z] at hr; cases hr
  exact q r _ _ _ F2 ((s1.trans s2).trans (Stp.al0 b2 hr)) upd_same nF ((s1.trans s2).dom hr) (rp_strs _) p2
end
end Ab
namespace Ab
open PySem PySem.Spec PyProof.Rows L2
/-! x, *y = a list; (x, *y) -/
section
variable {prog : Program} {w : World} {A : Around} {E : Value → Shared → Prop} {s : Shared}
theorem star_lst {l : Addr} {x : Value} {r : List Value} {Q : List Value → Shared → Prop} (hl : s.heap.IsList l (x :: r).toArray) (hh : A.handled = none) (hz : r.length ≤ 10000)
    (h : ∀ (h' : Heap) (tk : Nat), (∀ b o, s.heap.get? b = some o → h'.get? b = some o) → Q [x, .ref h'.objs.size] { s with heap := h'.push { cls := .type "list", data := .seq r.toArray }, toks := tk }) : wpAny (model prog w) A (unpackItems (.ref l) 2 (some 1)) Q E s := by
  have h0 : l < s.heap.objs.size := by obtain ⟨o, ho, _⟩ := hl; exact Heap.lt_size ho
  have hne : l ≠ s.heap.objs.size := Nat.ne_of_lt h0
  unfold unpackItems
  apply wpAny_bind
  unfold notIterableAtAll
  apply wpAny_bind
  apply wpAny_specialOf hl.typeIs slot_list_iter.lookup
  apply wpAny_pure
  simp only [Bool.false_eq_true, if_false]
  refine wpAny_bind (wpAny_holding (wpAny_pyIter_list hl (wpAny_bind (wpAny_holding (PySem.W.kun_draw hne 1 0 _ _ ⟨_, Heap.get?_push_size _ rfl, rfl, rfl⟩ (hl.push _) (by simp) fun h1 it1 sm => ?_)))))
  have hl1 : h1.IsList l (x :: r).toArray := (hl.push _).extBut sm.extBut hne
  rw [Nat.zero_add] at it1
  obtain ⟨oi, ei, _⟩ := id it1
  obtain ⟨ol, el, _⟩ := id hl1
  have ez : (x :: r).toArray.size = r.length + 1 := by simp
  rw [if_neg (by simp)]
  refine wpAny_bind (wpAny_holding (PySem.W.kun_collect (s := { s with heap := h1 }) (T := "list_iterator") (.inr (.inr (.inl rfl))) (Walks.list (A := A.in1) hh s.heap.objs.size l hne (x :: r).toArray) (fun j u st => st.1.typeIs) (k := 1) (by rw [ez]; omega)
    ⟨it1, hl1⟩ (Heap.lt_size ei) (Heap.lt_size el) (fun h2 tk hk => ?_) (by rw [ez, sizeLine_eq]; omega)))
  have e1 : ((x :: r).toArray.toList.drop 1) = r := rfl
  have e2 : (((x :: r).toArray.toList.drop 0).take 1) = [x] := rfl
  rw [e1, e2]
  show wpAny _ _ (if r.length < 2 - 1 - 1 then _ else _) _ _ _
  rw [if_neg (by omega)]
  have e3 : r.length - (2 - 1 - 1) = r.length := by omega
  show wpAny _ _ (newList (r.take (r.length - (2 - 1 - 1))) >>= fun d => pure ([x] ++ [d] ++ r.drop (r.length - (2 - 1 - 1)))) _ _ _
  rw [e3, List.take_length, List.drop_length]
  refine wpAny_bind (wpAny_newList (wpAny_pure ?_) (by rw [sizeLine_eq]; omega))
  exact h h2 tk fun b o e => hk b o (Nat.ne_of_lt (Heap.lt_size e)) (sm.extBut b o (Nat.ne_of_lt (Heap.lt_size e)) (Heap.get?_push_of_some _ e))
end
section
variable {X : Cx} {e a b c : Expr} {es : List Expr} {pos p : Pos} {α β γ : AEx} {x y : Str}
def gStarL (K : KW) (i j : Nat) : TG := fun v σ H Q => ∃ a u vs, v = .ref a ∧ SqL K H a (u :: vs) ∧ vs.length ≤ 10000 ∧ ∀ q, H q = none → Q ((σ.set i (some u)).set j (some (.ref q))) (upd H q (.lst vs))
theorem pg_starL {i j : Nat} {px py ps : Pos} {k : Nat} (hc : X.calm = true) (nd : X.N.Nodup) (hi : X.N[i]? = some x) (hj : X.N[j]? = some y) (hx : Loc X.env.scope x) (hy : Loc X.env.scope y)
    (hfx : X.fn x = true ∨ X.env.scope.names.lookup x = some .local) (hfy : X.fn y = true ∨ X.env.scope.names.lookup y = some .local) : PG X (.Tuple [.Name x px, .Starred (.Name y py) ps] k pos) (gStarL (kw X) i j) := by
  refine ⟨fun pins s σ H v u Q I r h => ?_⟩
  obtain ⟨a, u0, vs, rfl, hs, hl, q⟩ := h
  cases r
  obtain ⟨its, rv, pl, hz⟩ := I.list hs
  cases rv with
  | @cons _ u1 _ us ru rr =>
    have ht : s.heap.IsList a (u1 :: us).toArray := by
      obtain ⟨o, m, e, c, d, q⟩ := pl
      exact ⟨o, e, c, m, q⟩
    rw [arm_assign_Tuple]
    refine wpAny_bind (wpAny_standAt ?_)
    show wpAny _ _ (unpack (.ref a) [(false, assign (.Name x px) X.env), (true, assign (.Name y py) X.env)]) _ _ _
    unfold unpack
    have hlen : us.length ≤ 10000 := by rw [← rr.length]; exact hl
    refine wpAny_bind (wpAny_holding (star_lst ht (I.ok.hd hc) hlen fun h' tk hk => ?_))
    have I1 : Inv X pins σ H { s with heap := h', toks := tk } := I.kept hk
    have I2 := I1.lnew (t' := tk) rr (by rw [sizeLine_eq]; omega)
    have fr := I1.fresh
    refine assignInOrder_cons (wpAny_assign_Name (store_ok I2 nd hi hx ru (fun s2 I3 => ?_) hfx))
    refine assignInOrder_cons (wpAny_assign_Name (store_ok (v := .ref h'.objs.size) I3 nd hj hy rfl (fun s3 I4 => ?_) hfy))
    exact assignInOrder_nil ⟨_, _, I4, q _ fr⟩
def tgStarL (i j : Nat) : DD → AE → (AE → Prop) → Prop := fun d env P => ∃ x xs, d = .list (x :: xs) ∧ xs.length ≤ 10000 ∧ P ((env.set i (.va x)).set j (.va (.list xs)))
theorem jg_starL (i j : Nat) {px py ps : Pos} {k : Nat} (hc : X.calm = true) (nd : X.N.Nodup) (hi : X.N[i]? = some x := by rfl) (hj : X.N[j]? = some y := by rfl) (hx : Loc X.env.scope x := by first | exact Or.inl rfl | exact Or.inr rfl) (hy : Loc X.env.scope y := by first | exact Or.inl rfl | exact Or.inr rfl)
    (hfx : X.fn x = true ∨ X.env.scope.names.lookup x = some .local := by first | exact .inl rfl | exact .inr rfl) (hfy : X.fn y = true ∨ X.env.scope.names.lookup y = some .local := by first | exact .inl rfl | exact .inr rfl) : JG X (.Tuple [.Name x px, .Starred (.Name y py) ps] k pos) (tgStarL i j) :=
  ⟨_, pg_starL hc nd hi hj hx hy hfx hfy, fun B F0 M T env σ H F R0 v d hd P p Q q => by
    obtain ⟨x0, xs, rfl, hl, p⟩ := p
    cases hd with
    | lst g1 g2 =>
      cases g2 with
      | @cons v0 vs _ _ r1 r2 =>
        refine ⟨_, v0, vs, rfl, .inl (.inl (R0.sub _ _ g1)), by rw [r2.len]; omega, fun c hc => ?_⟩
        have st : Stp T H F (upd H c (.lst vs)) (upd F c (.lst vs)) := .al R0.bs hc
        exact q _ _ _ _ st (((R0.step st).put (Rp.sub st.ext _ r1) _ rfl).put (.lst upd_same (RpAll.sub st.ext _ r2)) _ rfl) p⟩
def dStar (α : AEx) (δ : AOx) : AOx := fun env P => α env fun x => ∃ xs, (x = .list xs ∨ x = .tuple xs) ∧ δ env fun ys => P (xs ++ ys)
theorem jd_star {δ : AOx} (h : JE X e α) (g : JD X es δ) (hs : starEach (.Starred e p :: es) X.env = (true, eval e X.env) :: starEach es X.env := by rfl) : JD X (.Starred e p :: es) (dStar α δ) := by
  obtain ⟨t, a1, a2⟩ := h.ex
  obtain ⟨u, b1, b2⟩ := g.ex
  refine ⟨_, StX.pa_star a1 b1 hs, fun B F0 M T env σ H F R0 P p Q q => a2 B F0 M T env σ H F R0 _ p _ fun v d H1 F1 s1 d1 p1 => ?_⟩
  obtain ⟨xs, hx, p1⟩ := p1
  have R1 := R0.step s1
  have ex : ∃ p vs, v = V.ref p ∧ (SqT (kw X) H1 p vs ∨ SqL (kw X) H1 p vs) ∧ RpAll (kw X) F1 vs xs := by
    rcases hx with rfl | rfl
    · cases d1 with | lst g1 g2 => exact ⟨_, _, rfl, .inr (.inl (.inl (R1.sub _ _ g1))), g2⟩
    · cases d1 with | tup g1 g2 => exact ⟨_, _, rfl, .inl (R1.sub.seqT g1), g2⟩
  obtain ⟨r, vs, rfl, hsq, hrp⟩ := ex
  refine ⟨r, vs, rfl, hsq, b2 B F0 M T env σ H1 F1 R1 _ p1 _ fun ws ys H2 F2 s2 d2 p2 => ?_⟩
  exact q _ _ H2 F2 (s1.trans s2) ((RpAll.sub s2.ext _ hrp).app d2) p2
end
end Ab
namespace Ab
open PySem PySem.Spec PyProof.Rows L2
/-! str(x) of an int or a text -/
def dStrA : List DD → (DD → Prop) → Prop := fun ds P => dStr ds P ∨ ∃ z, ds = [.str z] ∧ P (.str z)
theorem sc_strA {K : KW} : SimC K (fun xs H Q => (∃ i, xs = [.int i] ∧ i.natAbs.log2 < 1920 ∧ Q (.str (toString i)) H) ∨ (∃ a, xs = [.str a] ∧ Q (.str a) H)) dStrA := fun T H F vs ds b hd P p Q q => by
  rcases p with p | ⟨z, rfl, p⟩
  · exact .inl (sc_str T H F vs ds b hd P p Q q)
  · obtain ⟨v, rfl, r⟩ := one_of hd
    cases r
    exact .inr ⟨z, rfl, q _ _ H F (.refl b) (.str _) p⟩
theorem dStrA_i {i : Int} {P : DD → Prop} (h : i.natAbs ≤ 1000) (p : P (.str (toString i))) : dStrA [.int i] P := .inl ⟨i, rfl, h, p⟩
theorem dStrA_s {z : Str} {P : DD → Prop} (p : P (.str z)) : dStrA [.str z] P := .inr ⟨z, rfl, p⟩
/-- the names of a table, none left out -/
def absE (es : Array DictEntry) (names : List Str) : Bool := es.toList.all fun e => !e.refKey && names.any fun y => e.key.isStr y
theorem abs_of {K : PySem.W.Frag} {d : Addr} {es : Array DictEntry} {n : Nat} {names : List Str} (hl : K.lookup d = some ⟨.type "dict", none, .dict es n, #[]⟩) (h : absE es names = true) (z : Str) (hz : z ∉ names) : PySem.W.nsIn K d z = some none := by
  unfold PySem.W.nsIn
  rw [hl]
  have h := List.all_eq_true.mp h
  have h1 : es.toList.find? (fun e => e.key.isStr z) = none := List.find?_eq_none.mpr fun e he z1 => by
    have := h e he
    simp only [Bool.and_eq_true, List.any_eq_true] at this
    obtain ⟨_, y, hy, e1⟩ := this
    exact hz (Value.isStr_inj _ _ _ z1 e1 ▸ hy)
  have h2 : es.toList.any (fun e => e.refKey) = false := List.any_eq_false.mpr fun e he z1 => by
    have := h e he
    simp only [Bool.and_eq_true] at this
    rw [z1] at this
    exact absurd this.1 (by decide)
  show (match es.toList.find? (fun e => e.key.isStr z) with | some e => some (some e.val) | none => if es.toList.any (fun e => e.refKey) then none else some none) = _
  rw [h1, h2]
  rfl
end Ab

/-! what the defs raise -/
namespace Lr
open PySem PySem.Spec PyProof.Rows Ab L2
/-- C is the j-th of the classes Cs, all of them below CL -/
structure IsCl (K : PySem.W.Frag) (CL : Addr) (Cs : List Addr) (C : Addr) (j : Nat) : Prop where
  exc : ExcC K C
  lt : j < 13
  exm : PySem.W.exmOne K (.ref C) (.ref CL) = some true
  ve : PySem.W.kitOne K (.ref C) (.type "ValueError") = some true
  is : Cs.map (fun D => PySem.W.kitOne K (.ref C) (.ref D)) = (List.range 13).map fun i => some (decide (i = j))
theorem IsCl.at {K : PySem.W.Frag} {CL : Addr} {Cs : List Addr} {C : Addr} {j : Nat} (h : IsCl K CL Cs C j) (i : Nat) (D : Addr) (e : Cs[i]? = some D) : PySem.W.kitOne K (.ref C) (.ref D) = some (decide (i = j)) := by
  have z := congrArg (fun l => l[i]?) h.is
  simp only [List.getElem?_map, e, Option.map_some] at z
  by_cases q : i < 13
  · rw [List.getElem?_range q] at z
    simpa using z
  · rw [List.getElem?_eq_none (by rw [List.length_range]; omega)] at z
    cases z
def W_which (K : PySem.W.Frag) (CL : Addr) (Cs : List Addr) : WtE := fun C P => ∃ j : Nat, IsCl K CL Cs C j ∧ P (.tuple [.str "raised", .int (j : Int)])
theorem kit_own {K : PySem.W.Frag} {C D : Addr} {b : Bool} (hd : PySem.W.hasDictIn K D = true) (ty : PySem.W.typeIn K (.ref D) = some (.type "type")) (su : PySem.W.subIn K (.ref C) (.ref D) = some b) (ne : b = false → (Value.ref C == Value.ref D) = false) : PySem.W.kitOne K (.ref C) (.ref D) = some b := by
  unfold PySem.W.kitOne
  by_cases q : (Value.ref C == Value.ref D) = true
  · rw [if_pos q]
    cases b with
    | true => rfl
    | false => rw [ne rfl] at q; cases q
  · rw [if_neg q]
    have hc : (PySem.W.clsIn K D).isSome = true := by
      unfold PySem.W.hasDictIn at hd
      cases z : PySem.W.clsIn K D with
      | none => rw [z] at hd; cases hd
      | some _ => rfl
    show (if ((PySem.W.clsIn K D).isSome && PySem.W.typeIn K (.ref D) == some (.type "type")) = true then PySem.W.subIn K (.ref C) (.ref D) else none) = _
    rw [hc, ty, if_pos (by rfl)]
    exact su
theorem kit_ve {K : PySem.W.Frag} {C : Addr} (su : PySem.W.subIn K (.ref C) (.type "ValueError") = some true) : PySem.W.kitOne K (.ref C) (.type "ValueError") = some true := by
  unfold PySem.W.kitOne
  rw [if_neg (by intro z; cases z)]
  show (if PySem.W.kitMeta "ValueError" = true then PySem.W.subIn K (.ref C) (.type "ValueError") else none) = _
  rw [if_pos (by decide +kernel)]
  exact su
/-! checks -/
def WX_ck (t : DD → Bool) (ask : DD → Prop) (C : Addr) : WtX := fun as P PE => ∃ d, as = [.va d] ∧ ask d ∧ (t d = true → P .none) ∧ (t d = false → PE C)
def AskC (d : DD) : Prop := ∀ xs, d = .tuple xs → xs.length ≤ 100
def AskL (d : DD) : Prop := ∀ xs, d = .list xs → xs.length ≤ 1000
def AskN (_ : DD) : Prop := True
/-- a word that is none -/
def noW : List Str := ["ask"]
def AskR (d : DD) : Prop := (∀ xs, d = .tuple xs → xs.length ≤ 100) ∧ ∀ z ns, d = .tuple (.str z :: ns) → (∃ n, (z, n) ∈ nbT) ∨ z ∈ noW
theorem ask_no {z : Str} {ns : List DD} (h : z ∈ noW) : isRule (.tuple (.str z :: ns)) = false := by
  rw [List.mem_singleton.mp h]
  rfl
def W_is_rule2 : Wt := fun as P => ∃ d, as = [.va d] ∧ AskR d ∧ P (.bool (isRule d))
/-- a list of checks: the first that fails tells -/
structure Ck where
  t : DD → Bool
  ask : DD → Prop
  C : Addr
def CkFail (PE : Addr → Prop) : List (Ck × DD) → Prop
  | [] => False
  | (c, d) :: r => c.ask d ∧ ((c.t d = false ∧ PE c.C) ∨ (c.t d = true ∧ CkFail PE r))
end Lr
namespace Lr
open PySem PySem.Spec PyProof.Rows Ab L2
theorem ck_step {A : AEnds} {PE : Addr → AE → Prop} {env : AE} {i : Nat} {t : DD → Bool} {ask : DD → Prop} {C : Addr} {d : DD} {v : ASxx} (e : env[i]? = some (.va d)) (h : ask d ∧ ((t d = false ∧ PE C env) ∨ (t d = true ∧ v A PE env))) :
    aSeqX (aExprX fun env P PE => gConsA (aV i) gNilA env fun as => as.length = 1 ∧ WX_ck t ask C as P PE) v A PE env :=
  ⟨d, e, rfl, d, rfl, h.1, fun z => h.2.elim (fun q => by rw [q.1] at z; cases z) fun q => q.2, fun z => h.2.elim (fun q => q.2) fun q => by rw [q.1] at z; cases z⟩
end Lr
namespace Lr
open PySem PySem.Spec PyProof.Rows Ab L2
structure OkC (K : PySem.W.Frag) (CL : Addr) (Cs : List Addr) (C : Addr) : Prop where
  ex : ∃ j, IsCl K CL Cs C j
theorem OkC.exc {K : PySem.W.Frag} {CL : Addr} {Cs : List Addr} {C : Addr} (h : OkC K CL Cs C) : ExcC K C := h.ex.elim fun _ h => h.exc
theorem OkC.exm {K : PySem.W.Frag} {CL : Addr} {Cs : List Addr} {C : Addr} (h : OkC K CL Cs C) : PySem.W.exmOne K (.ref C) (.ref CL) = some true := h.ex.elim fun _ h => h.exm
theorem rhU {k : Nat} {A : Around} (r : L2H.RoomH k A) : A.units + 64 < cLine := by have := r.un; omega
theorem rhU2 {k : Nat} {A : Around} (r : L2H.RoomH k A) : A.units + 65 < cLine := by have := r.un; omega
end Lr
namespace Lr
open PySem Ab
def whB (j : Nat) : List DD := (List.range 13).map fun i => PyData.bool (decide (i = j))
theorem whB_at {j m : Nat} (h : m < 13) : (whB j)[m]? = some (.bool (decide (m = j))) := by
  unfold whB
  rw [List.getElem?_map, List.getElem?_range h]
  rfl
theorem whB_cnt : ∀ j : Fin 13, (whB j.1).countP (fun z => PyData.eqv z (.bool true)) = 1 := by decide +kernel
theorem whB_sh : ∀ j : Fin 13, SeqAt.shaped (.list (whB j.1)) = true := by decide +kernel
theorem which_end {j : Nat} {Q : DD → Prop} (hj : j < 13) (q : Q (.tuple [.str "raised", .int (j : Int)])) :
    SeqAt.shaped (.list (whB j)) = true ∧ SeqAt.shaped (.bool true) = true ∧
      ((!decide (((((whB j).countP fun z => PyData.eqv z (.bool true)) : Nat) : Int) = 1)) = true → Q (.tuple [.str "raised", .int (-1)])) ∧
      ((!decide (((((whB j).countP fun z => PyData.eqv z (.bool true)) : Nat) : Int) = 1)) = false →
        ∃ (i : Nat) (z : DD), SeqAt.shaped (.list (whB j)) = true ∧ SeqAt.shaped (.bool true) = true ∧ (whB j)[i]? = some z ∧ PyData.eqv z (.bool true) = true ∧ (∀ (m : Nat) (z' : DD), m < i → (whB j)[m]? = some z' → PyData.eqv z' (.bool true) = false) ∧ Q (.tuple [.str "raised", .int (i : Int)])) := by
  have hs := whB_sh ⟨j, hj⟩
  have hc := whB_cnt ⟨j, hj⟩
  refine ⟨hs, rfl, fun z => ?_, fun _ => ⟨j, .bool true, hs, rfl, by rw [whB_at hj]; simp, rfl, fun m z' hm e => ?_, q⟩⟩
  · rw [hc] at z
    cases z
  · rw [whB_at (by omega)] at e
    cases e
    rw [decide_eq_false (by omega)]
    rfl
end Lr

namespace Lr
open PySem Ab L2
theorem set_same {α : Type} : ∀ {xs : List α} {i : Nat} {a : α}, xs[i]? = some a → xs.set i a = xs
  | [], _, _, h => by simp at h
  | x :: xs, 0, a, h => by simp at h; simp [h]
  | x :: xs, i + 1, a, h => by
    rw [List.set_cons_succ, set_same (by simpa using h)]
/-- if rule[0] == "clock": rule = (w, rule[1]) -/
theorem unclock {rule : Rule} {wd : Str} {mk : Int → Rule} {i : Nat} {A : AEnds} {env : AE} (hd : ∀ x, (mk x).d = .tuple [.str wd, .int x]) (ho : ∀ x y, (Rule.clock x y).ok → (mk x).ok) (hm : ∀ x y z, mk x ≠ .clock y z) (hr : rule.ok) (he : env[i]? = some (.va rule.d))
    (h : ∀ r : Rule, r.ok → (∀ x y, r ≠ .clock x y) → A.nx (env.set i (.va r.d))) :
    aIfS (aT (aB dEq (aB dIx (aV i) (aC (.int 0))) (aC (.str (Str.ofString "clock"))))) (aSet i (aTup (dCons (aC (.str wd)) (dCons (aB dIx (aV i) (aC (.int 1))) dNil)))) aSkip A env := by
  cases rule with
  | clock x y =>
    have e := h (mk x) (ho x y hr) (hm x)
    rw [hd] at e
    simp only [aIfS, aT, aB, aV, aC, aTup, dCons, dNil, aSet, aSkip, he]
    refine ⟨_, rfl, (dIx_t).mpr ⟨_, at0, wd_clock_clock.mpr ⟨_, rfl, fun _ => ?_, fun h => by cases h⟩⟩⟩
    exact ⟨_, rfl, dIx_t.mpr ⟨_, at1, by show 2 ≤ lineD; unfold lineD; omega, e⟩⟩
  | asked x =>
    have e := h _ hr (by intro _ _ h; cases h)
    rw [set_same he] at e
    simp only [aIfS, aT, aB, aV, aC, aSkip, he]
    exact ⟨_, rfl, (dIx_t).mpr ⟨_, at0, wd_asked_clock.mpr ⟨_, rfl, (fun h => by cases h), (fun _ => e)⟩⟩⟩
  | due x =>
    have e := h _ hr (by intro _ _ h; cases h)
    rw [set_same he] at e
    simp only [aIfS, aT, aB, aV, aC, aSkip, he]
    exact ⟨_, rfl, (dIx_t).mpr ⟨_, at0, wd_due_clock.mpr ⟨_, rfl, (fun h => by cases h), (fun _ => e)⟩⟩⟩
  | empty x =>
    have e := h _ hr (by intro _ _ h; cases h)
    rw [set_same he] at e
    simp only [aIfS, aT, aB, aV, aC, aSkip, he]
    exact ⟨_, rfl, (dIx_t).mpr ⟨_, at0, wd_empty_clock.mpr ⟨_, rfl, (fun h => by cases h), (fun _ => e)⟩⟩⟩
  | gap x y =>
    have e := h _ hr (by intro _ _ h; cases h)
    rw [set_same he] at e
    simp only [aIfS, aT, aB, aV, aC, aSkip, he]
    exact ⟨_, rfl, (dIx_t).mpr ⟨_, at0, wd_gap_clock.mpr ⟨_, rfl, (fun h => by cases h), (fun _ => e)⟩⟩⟩
  | longer x =>
    have e := h _ hr (by intro _ _ h; cases h)
    rw [set_same he] at e
    simp only [aIfS, aT, aB, aV, aC, aSkip, he]
    exact ⟨_, rfl, (dIx_t).mpr ⟨_, at0, wd_longer_clock.mpr ⟨_, rfl, (fun h => by cases h), (fun _ => e)⟩⟩⟩
variable {room pause : Int} {rule : Rule} {cs rest : List Int} {n : Nat} {s : Sta} {c : Int}
theorem tick_wait : 0 < (tick room pause rule s c).s.wait → 0 < ln (1 - (tick room pause rule s c).s.road) (tick room pause rule s c).s.a (tick room pause rule s c).s.b := by
  obtain ⟨w0, e⟩ : ∃ w0, (tick room pause rule s c).s.wait = if ln (1 - (tick room pause rule s c).s.road) (tick room pause rule s c).s.a (tick room pause rule s c).s.b > 0 then w0 + 1 else 0 := ⟨_, rfl⟩
  intro h
  rw [e] at h
  split at h
  · assumption
  · omega
theorem tick_road (hs : StaOk room s) : (s.left = 0 → (tick room pause rule s c).light ≠ .r s.road → changes rule s.road s.age s.rest s.wait (min room (s.a + bit0 c)) (min room (s.b + bit1 c)) = true ∧ (tick room pause rule s c).s.road = 1 - s.road) ∧
    ((s.left ≠ 0 ∨ (tick room pause rule s c).light = .r s.road) → (tick room pause rule s c).s.road = s.road) := by
  simp only [tick]
  generalize hch : changes rule s.road s.age s.rest s.wait (min room (s.a + bit0 c)) (min room (s.b + bit1 c)) = ch
  constructor
  · intro h0 h1
    cases ch with
    | true => simp [h0]
    | false => exact absurd (by rw [h0]; rfl) h1
  · intro h
    by_cases h0 : s.left = 0
    · rcases h with h | h
      · exact absurd h0 h
      · revert h
        cases ch with
        | true =>
          simp only [h0, decide_true, Bool.and_self, if_true]
          intro h
          split at h
          · injection h
          · cases h
        | false => intro _; simp
    · simp [h0]
theorem need (hw : 0 < s.wait → 0 < ln (1 - s.road) s.a s.b) (hc : CrOk room pause) (hr : rule.ok) (hn : ∀ x y, rule ≠ .clock x y) (hs : StaOk room s) (hk : ComOk c) (h : changes rule s.road s.age s.rest s.wait (min room (s.a + bit0 c)) (min room (s.b + bit1 c)) = true) :
    0 < ln (1 - s.road) (min room (s.a + bit0 c)) (min room (s.b + bit1 c)) ∧ ((∃ x, rule = .longer x) → ln s.road (min room (s.a + bit0 c)) (min room (s.b + bit1 c)) < ln (1 - s.road) (min room (s.a + bit0 c)) (min room (s.b + bit1 c))) := by
  obtain ⟨hb1, hb2⟩ := bits hk
  obtain ⟨h1, _, ⟨a0, a1⟩, b0, b1⟩ := hs
  cases rule with
  | clock x y => exact absurd rfl (hn x y)
  | asked x => simp [changes] at h; exact ⟨h.2, fun ⟨_, e⟩ => by cases e⟩
  | empty x => simp [changes] at h; exact ⟨h.1, fun ⟨_, e⟩ => by cases e⟩
  | gap x y => simp [changes] at h; exact ⟨h.1, fun ⟨_, e⟩ => by cases e⟩
  | longer x =>
    simp [changes] at h
    refine ⟨?_, fun _ => h.2⟩
    have : 0 ≤ ln s.road (min room (s.a + bit0 c)) (min room (s.b + bit1 c)) := by unfold ln; split <;> omega
    omega
  | due x =>
    simp [changes] at h
    refine ⟨?_, fun ⟨_, e⟩ => by cases e⟩
    obtain ⟨h3, _⟩ := hr
    have := hw (by omega)
    unfold ln at this ⊢
    split at this <;> rename_i z <;> simp only [z, if_true, if_false] <;> omega
def isL : Rule → Bool
  | .longer _ => true
  | _ => false
theorem isL_ex {r : Rule} (h : isL r = true) : ∃ x, r = .longer x := by
  cases r <;> first | exact ⟨_, rfl⟩ | cases h
theorem isl {r : Rule} {P : DD → Prop} : (dIx r.d (.int 0) fun x => dEq x (.str (Str.ofString "longer")) P) ↔ P (.bool (isL r)) := by
  cases r
  · exact dIx_t.trans ⟨fun ⟨_, e, q⟩ => by cases e; exact wd_asked_longer.mp q, fun q => ⟨_, at0, wd_asked_longer.mpr q⟩⟩
  · exact dIx_t.trans ⟨fun ⟨_, e, q⟩ => by cases e; exact wd_clock_longer.mp q, fun q => ⟨_, at0, wd_clock_longer.mpr q⟩⟩
  · exact dIx_t.trans ⟨fun ⟨_, e, q⟩ => by cases e; exact wd_due_longer.mp q, fun q => ⟨_, at0, wd_due_longer.mpr q⟩⟩
  · exact dIx_t.trans ⟨fun ⟨_, e, q⟩ => by cases e; exact wd_empty_longer.mp q, fun q => ⟨_, at0, wd_empty_longer.mpr q⟩⟩
  · exact dIx_t.trans ⟨fun ⟨_, e, q⟩ => by cases e; exact wd_gap_longer.mp q, fun q => ⟨_, at0, wd_gap_longer.mpr q⟩⟩
  · exact dIx_t.trans ⟨fun ⟨_, e, q⟩ => by cases e; exact wd_longer_longer.mp q, fun q => ⟨_, at0, wd_longer_longer.mpr q⟩⟩
theorem Mid.first (h : Mid room pause rule cs n s rest) (hn : n = 0) : s = sta0 := by
  obtain ⟨rs, _, e2, e3⟩ := h.eq
  rcases e3 with ⟨_, e⟩ | ⟨rs', r, rfl, _⟩
  · exact e
  · simp at e2; omega
def two (x y : DD) : DD → DD
  | .int 0 => x
  | _ => y
theorem two0 {x y : DD} : two x y (.int 0) = x := rfl
theorem two1 {x y : DD} : two x y (.int 1) = y := rfl
def fst0 : DD → DD
  | .tuple (x :: _) => x
  | d => d
theorem dNe_ni {j : Int} {P : DD → Prop} : dNe .none (.int j) P ↔ P (.bool true) := ⟨fun ⟨_, _, q⟩ => q, fun q => ⟨(Sh.non (n := 1)).ok, (Sh.int (n := 1)).ok, q⟩⟩
theorem dNe_in {j : Int} {P : DD → Prop} : dNe (.int j) .none P ↔ P (.bool true) := ⟨fun ⟨_, _, q⟩ => q, fun q => ⟨(Sh.int (n := 1)).ok, (Sh.non (n := 1)).ok, q⟩⟩
theorem sum_le (room pause : Int) (rule : Rule) : ∀ (cs : List Int) (s : Sta), ((run room pause rule s cs).map (·.passed)).sum ≤ cs.length
  | [], _ => by simp [run]
  | c :: cs, s => by
    have := sum_le room pause rule cs (tick room pause rule s c).s
    have h1 : (tick room pause rule s c).passed ≤ 1 := by simp only [tick]; split <;> omega
    simp only [run, List.map_cons, List.sum_cons, List.length_cons]
    omega
end Lr

namespace Lr
open PySem Ab L2
/-- the first tick that isn't green for road 0 -/
def firstN : List Lt → Nat
  | [] => 0
  | l :: ls => if l = .r 0 then firstN ls + 1 else 0
theorem firstN_le : ∀ ls : List Lt, firstN ls ≤ ls.length
  | [] => Nat.le_refl _
  | l :: ls => by
    unfold firstN
    split
    · have := firstN_le ls; rw [List.length_cons]; omega
    · exact Nat.zero_le _
def W_first1 : Wt := fun as P => ∃ ls : List Lt, as = [.va (.list (ls.map Lt.d))] ∧ ls.length ≤ 40 ∧ P (.int (firstN ls : Nat))
variable {room pause : Int} {rule rule' : Rule}
theorem tick_same {s : Sta} {c : Int} (h : changes rule s.road s.age s.rest s.wait (min room (s.a + bit0 c)) (min room (s.b + bit1 c)) = changes rule' s.road s.age s.rest s.wait (min room (s.a + bit0 c)) (min room (s.b + bit1 c))) : tick room pause rule s c = tick room pause rule' s c := by
  simp only [tick, h]
theorem tick_go {s : Sta} {c : Int} (hp : 0 ≤ pause) (h0 : s.road = 0) (hl : s.left = 0) (h : changes rule s.road s.age s.rest s.wait (min room (s.a + bit0 c)) (min room (s.b + bit1 c)) = true) : (tick room pause rule s c).light ≠ .r 0 := by
  rw [h0] at h
  simp only [tick, h0, hl, h, decide_true, Bool.and_self, if_true]
  split <;> simp
theorem later (hp : 0 ≤ pause) (hm : ∀ age rest wait a b, changes rule' 0 age rest wait a b = true → changes rule 0 age rest wait a b = true) : ∀ (cs : List Int) (s : Sta), s.road = 0 → s.left = 0 →
    firstN ((run room pause rule s cs).map (·.light)) ≤ firstN ((run room pause rule' s cs).map (·.light)) ∧
    ((run room pause rule s cs).map (·.light)).take (firstN ((run room pause rule s cs).map (·.light))) = ((run room pause rule' s cs).map (·.light)).take (firstN ((run room pause rule s cs).map (·.light)))
  | [], s, _, _ => by simp [run, firstN]
  | c :: cs, s, h0, hl => by
    cases h : changes rule s.road s.age s.rest s.wait (min room (s.a + bit0 c)) (min room (s.b + bit1 c)) with
    | true =>
      have := tick_go (room := room) hp h0 hl h
      simp only [run, List.map_cons, firstN, if_neg this, List.take_zero]
      exact ⟨Nat.zero_le _, trivial⟩
    | false =>
      have h' : changes rule' s.road s.age s.rest s.wait (min room (s.a + bit0 c)) (min room (s.b + bit1 c)) = false := by
        cases e : changes rule' s.road s.age s.rest s.wait (min room (s.a + bit0 c)) (min room (s.b + bit1 c)) with
        | false => rfl
        | true => rw [h0] at e h; rw [hm _ _ _ _ _ e] at h; cases h
      have e := tick_same (pause := pause) (h.trans h'.symm)
      have ek := tick_keep (pause := pause) hl rfl rfl h
      have e1 : (tick room pause rule s c).light = .r 0 := by rw [ek, h0]
      have e2 : (tick room pause rule s c).s.road = 0 := by rw [ek, h0]
      have e3 : (tick room pause rule s c).s.left = 0 := by rw [ek]
      obtain ⟨i1, i2⟩ := later hp hm cs _ e2 e3
      simp only [run, List.map_cons, ← e, firstN, e1, if_true, List.take_succ_cons]
      exact ⟨by omega, by rw [i2]⟩
theorem coll_opt {g : DD → AE → (AE → Prop) → Prop} {τ : ATx} {α : AEx} {env : AE} {P : List DD → Prop} (f : DD → Option DD) : ∀ (ds acc : List DD), (∀ d ∈ ds, ∀ (N : DD → Prop) (S : Prop), (∀ y, f d = some y → N y) → (f d = none → S) → g d env fun env' => τ env' fun b => (b = true → α env' N) ∧ (b = false → S)) → P (acc ++ ds.filterMap f) → aColl g τ α env P ds acc
  | [], acc, _, h => by
    rw [List.filterMap_nil, List.append_nil] at h
    exact h
  | d :: ds, acc, hf, h => by
    have hr := fun e he => hf e (List.mem_cons_of_mem d he)
    refine hf d List.mem_cons_self _ _ (fun y e => coll_opt f ds (acc ++ [y]) hr ?_) (fun e => coll_opt f ds acc hr ?_)
    · rw [List.filterMap_cons, e] at h
      rw [List.append_assoc]
      exact h
    · rw [List.filterMap_cons, e] at h
      exact h
def notG : DD → Option DD
  | .tuple [i, .int 0] => none
  | .tuple [i, _] => some i
  | _ => none
theorem notG_0 {i : DD} : notG (.tuple [i, (Lt.r 0).d]) = none := rfl
theorem notG_n {i : DD} {l : Lt} (h : l ≠ .r 0) : notG (.tuple [i, l.d]) = some i := by
  cases l with
  | dark => rfl
  | r j =>
    have hj : j ≠ 0 := fun e => h (by rw [e])
    show notG (.tuple [i, .int j]) = some i
    unfold notG
    split
    next e => injection e with e; injection e with _ e; injection e with e; injection e with e; exact absurd e hj
    next e => injection e with e; injection e with e; rw [e]
    next h1 h2 => exact absurd rfl (h2 _ _)
theorem first_at : ∀ (ls : List Lt) (k : Nat), ((enumF k (ls.map Lt.d)).filterMap notG ++ [PyData.int ((k + ls.length : Nat) : Int)])[0]? = some (.int ((k + firstN ls : Nat) : Int))
  | [], k => rfl
  | l :: ls, k => by
    rw [List.map_cons, enumF, List.filterMap_cons]
    by_cases e : l = .r 0
    · subst e
      rw [notG_0, firstN, if_pos rfl]
      have := first_at ls (k + 1)
      rw [show k + (Lt.r 0 :: ls).length = k + 1 + ls.length by rw [List.length_cons]; omega, show k + (firstN ls + 1) = k + 1 + firstN ls by omega]
      exact this
    · rw [notG_n e, firstN, if_neg e]
      rfl
theorem enumF_mem : ∀ {ls : List Lt} {k : Nat} {d : DD}, d ∈ enumF k (ls.map Lt.d) → ∃ (i : Int) (l : Lt), d = .tuple [.int i, l.d]
  | l :: ls, k, d, h => by
    rw [List.map_cons, enumF] at h
    rcases List.mem_cons.mp h with rfl | h
    · exact ⟨_, _, rfl⟩
    · exact enumF_mem h
theorem enumF_len : ∀ (xs : List DD) (k : Nat), (enumF k xs).length = xs.length
  | [], _ => rfl
  | x :: xs, k => by rw [enumF, List.length_cons, enumF_len xs, List.length_cons]
theorem cutA2 {a b : DD} : cutD [a, b] none (some 1) = [a] := rfl
theorem cutB2 {a b : DD} : cutD [a, b] (some 2) none = [] := rfl
theorem cutA3 {a b c : DD} : cutD [a, b, c] none (some 1) = [a] := rfl
theorem cutA4 {a b c : DD} : cutD [a, b, c] none (some 2) = [a, b] := rfl
theorem cutB3 {a b c : DD} : cutD [a, b, c] (some 2) none = [c] := rfl
theorem cutB4 {a b c : DD} : cutD [a, b, c] (some 3) none = [] := rfl
theorem nm2 : ((0 + 1 + 1 : Nat) : Int) - 1 = 1 := rfl
theorem nm3 : ((0 + 1 + 1 + 1 : Nat) : Int) - 1 = 2 := rfl
theorem W_first1_i {ls : List Lt} {P : DD → Prop} (h : ls.length ≤ 40) : W_first1 [.va (.list (ls.map Lt.d))] P ↔ P (.int (firstN ls : Nat)) := by
  constructor
  · rintro ⟨ls', e, _, q⟩
    have e2 : ls.map Lt.d = ls'.map Lt.d := by
      injection e with e; injection e with e; injection e
    have inj : ∀ (xs ys : List Lt), xs.map Lt.d = ys.map Lt.d → xs = ys := by
      intro xs
      induction xs with
      | nil => intro ys h; cases ys <;> simp at h; rfl
      | cons x xs ih =>
        intro ys h
        cases ys with
        | nil => simp at h
        | cons y ys =>
          rw [List.map_cons, List.map_cons] at h
          injection h with h1 h2
          rw [ih ys h2]
          cases x <;> cases y <;> cases h1 <;> rfl
    rw [inj _ _ e2]
    exact q
  · exact fun q => ⟨ls, rfl, h, q⟩
end Lr

/-! a tick trimmed to what rules can tell apart -/
namespace Lr
open PySem Ab
structure Lim where
  a : Int
  r : Int
  w : Int
def Lim.d (l : Lim) : DD := .tuple [.int l.a, .int l.r, .int l.w]
def cmpd : Rule → Lim
  | .gap i m => ⟨m, i, 0⟩
  | .due n => ⟨0, 0, n⟩
  | .asked n => ⟨n, 0, 0⟩
  | .clock a b => ⟨max a b, 0, 0⟩
  | .empty n => ⟨n, 0, 0⟩
  | .longer n => ⟨n, 0, 0⟩
def Lim.mx (x y : Lim) : Lim := ⟨max x.a y.a, max x.r y.r, max x.w y.w⟩
def trim (l : Lim) (s : Sta) : Sta := { s with age := min s.age l.a, rest := min s.rest l.r, wait := min s.wait l.w }
theorem dZs_1 {l : Lim} {P : List DD → Prop} : dZs (.list [l.d]) P ↔ P [.tuple [.int l.a], .tuple [.int l.r], .tuple [.int l.w]] := ⟨fun h => by
  rcases h with ⟨xs, e, q⟩ | ⟨xs, ys, e, _⟩
  · injection e with e; injection e with e _; injection e with e
    subst e; exact q
  · simp at e, fun q => .inl ⟨_, rfl, q⟩⟩
theorem dZs_2 {l m : Lim} {P : List DD → Prop} : dZs (.list [l.d, m.d]) P ↔ P [.tuple [.int l.a, .int m.a], .tuple [.int l.r, .int m.r], .tuple [.int l.w, .int m.w]] := ⟨fun h => by
  rcases h with ⟨xs, e, _⟩ | ⟨xs, ys, e, _, q⟩
  · simp at e
  · injection e with e; injection e with e e'; injection e with e; injection e' with e' _; injection e' with e'
    subst e e'; exact q, fun q => .inr ⟨_, _, rfl, rfl, q⟩⟩
def W_compared : Wt := fun as P => ∃ rule : Rule, as = [.va rule.d] ∧ P (cmpd rule).d
theorem W_compared_i {rule : Rule} {P : DD → Prop} : W_compared [.va rule.d] P ↔ P (cmpd rule).d := by
  constructor
  · rintro ⟨r, e, q⟩
    simp only [List.cons.injEq, Sl.va.injEq, and_true] at e
    rw [Rule.d_inj e]; exact q
  · intro q; exact ⟨rule, rfl, q⟩
def W_limits : Wt := fun as P => (∃ r : Rule, as = [.va (.list [r.d])] ∧ P (cmpd r).d) ∨ ∃ r r' : Rule, as = [.va (.list [r.d, r'.d])] ∧ P ((cmpd r).mx (cmpd r')).d
theorem W_limits_1 {r : Rule} {P : DD → Prop} : W_limits [.va (.list [r.d])] P ↔ P (cmpd r).d := by
  constructor
  · rintro (⟨r1, e, q⟩ | ⟨r1, r2, e, q⟩)
    · simp only [List.cons.injEq, Sl.va.injEq, and_true, PyData.list.injEq] at e
      rw [Rule.d_inj e]; exact q
    · simp at e
  · intro q; exact .inl ⟨r, rfl, q⟩
theorem W_limits_2 {r r' : Rule} {P : DD → Prop} : W_limits [.va (.list [r.d, r'.d])] P ↔ P ((cmpd r).mx (cmpd r')).d := by
  constructor
  · rintro (⟨r1, e, q⟩ | ⟨r1, r2, e, q⟩)
    · simp at e
    · simp only [List.cons.injEq, Sl.va.injEq, and_true, PyData.list.injEq] at e
      rw [Rule.d_inj e.1, Rule.d_inj e.2]; exact q
  · intro q; exact .inr ⟨r, r', rfl, q⟩
def stp (room pause : Int) (l : Lim) (rule : Rule) (s : Sta) (c : Int) : Sta := trim l (tick room pause rule s c).s
def lit (room pause : Int) (rule : Rule) (s : Sta) (c : Int) : Lt := (tick room pause rule s c).light
def W_step : Wt := fun as P => ∃ room pause l rule s c, as = [.va (crD room pause), .va (Lim.d l), .va (Rule.d rule), .va (Sta.d s), .va (.int c)] ∧ CrOk room pause ∧ StaOk room s ∧ ComOk c ∧ P (.tuple [(stp room pause l rule s c).d, (lit room pause rule s c).d])
theorem Lim.d_inj {l l' : Lim} (e : l.d = l'.d) : l = l' := by
  cases l; cases l'
  simp only [Lim.d, PyData.tuple.injEq, List.cons.injEq, PyData.int.injEq, and_true] at e
  obtain ⟨rfl, rfl, rfl⟩ := e
  rfl
theorem W_step_i {room pause c : Int} {l : Lim} {rule : Rule} {s : Sta} {P : DD → Prop} (hc : CrOk room pause) (hs : StaOk room s) (hk : ComOk c) : W_step [.va (crD room pause), .va l.d, .va rule.d, .va s.d, .va (.int c)] P ↔ P (.tuple [(stp room pause l rule s c).d, (lit room pause rule s c).d]) := by
  constructor
  · rintro ⟨r, p, l', ru, s', c', e, _, _, _, q⟩
    simp only [crD, List.cons.injEq, Sl.va.injEq, PyData.int.injEq, PyData.tuple.injEq, and_true] at e
    obtain ⟨⟨rfl, rfl⟩, e0, e1, e2, rfl⟩ := e
    rw [Rule.d_inj e1, Sta.d_inj e2, Lim.d_inj e0]
    exact q
  · intro q
    exact ⟨room, pause, l, rule, s, c, rfl, hc, hs, hk, q⟩
def kindC (k : Int) : List Int := if k = 0 then [0] else if k = 1 then [0, 1] else if k = 2 then [0, 2] else [0, 1, 2, 3]
def W_comings_of : Wt := fun as P => ∃ k : Int, as = [.va (.int k)] ∧ ComOk k ∧ P (.list ((kindC k).map PyData.int))
theorem W_comings_of_i {k : Int} {P : DD → Prop} (hk : ComOk k) : W_comings_of [.va (.int k)] P ↔ P (.list ((kindC k).map PyData.int)) := by
  constructor
  · rintro ⟨k', e, _, q⟩
    simp only [List.cons.injEq, Sl.va.injEq, PyData.int.injEq, and_true] at e
    subst e; exact q
  · intro q; exact ⟨k, rfl, hk, q⟩
def W_ck_kind : Wt := fun as P => ∃ k : Int, as = [.va (.int k)] ∧ ComOk k ∧ P .none
theorem W_ck_kind_i {k : Int} {P : DD → Prop} (hk : ComOk k) : W_ck_kind [.va (.int k)] P ↔ P .none := by
  constructor
  · rintro ⟨k', e, _, q⟩; exact q
  · intro q; exact ⟨k, rfl, hk, q⟩
instance (c : Int) : Decidable (ComOk c) := inferInstanceAs (Decidable (0 ≤ c ∧ c ≤ 3))
theorem kindC_ok {k : Int} (hk : ComOk k) : ∀ c ∈ kindC k, ComOk c := by
  rcases com_cases hk with rfl | rfl | rfl | rfl <;> decide
theorem bor_kind {k c : Int} (hk : ComOk k) (hc : ComOk c) : (decide (Builtin.bitOr c k = k)) = decide (c ∈ kindC k) := by
  rcases com_cases hk with rfl | rfl | rfl | rfl <;> rcases com_cases hc with rfl | rfl | rfl | rfl <;> decide +kernel
def W_near : Wt := fun as P => ∃ ns, as = [.sc ns, .tw] ∧ ∀ room pause, CrOk room pause → room ≤ 2 → P (crD room pause)
theorem W_near_i {ns : List Int} {P : DD → Prop} : W_near [.sc ns, .tw] P ↔ ∀ room pause, CrOk room pause → room ≤ 2 → P (crD room pause) := ⟨fun ⟨_, _, q⟩ => q, fun q => ⟨_, rfl, q⟩⟩
def W_trim : Wt := fun as P => ∃ l s, as = [.va (Lim.d l), .va (Sta.d s)] ∧ P (trim l s).d
theorem W_trim_i {l : Lim} {s : Sta} {P : DD → Prop} : W_trim [.va l.d, .va s.d] P ↔ P (trim l s).d := by
  constructor
  · rintro ⟨l', s', e, q⟩
    simp only [List.cons.injEq, Sl.va.injEq, and_true] at e
    rw [Lim.d_inj e.1, Sta.d_inj e.2]; exact q
  · intro q; exact ⟨l, s, rfl, q⟩
end Lr

/-! searching layer by layer, as mathematics -/
namespace Lr
open PySem Ab
/-! order of rows -/
def slx : List Int → List Int → Prop
  | a :: r, b :: t => a < b ∨ (a = b ∧ slx r t)
  | _, _ => False
def lx (r t : List Int) : Prop := slx r t ∨ r = t
theorem slx_app : ∀ {r t : List Int} (x y : List Int), slx r t → slx (r ++ x) (t ++ y)
  | [], _, _, _, h => h.elim
  | a :: r, [], _, _, h => h.elim
  | a :: r, b :: t, x, y, h => by
    rcases h with h | ⟨h, g⟩
    · exact .inl h
    · exact .inr ⟨h, slx_app x y g⟩
theorem slx_snoc {c d : Int} (h : c < d) : ∀ r : List Int, slx (r ++ [c]) (r ++ [d])
  | [] => .inl h
  | a :: r => .inr ⟨rfl, slx_snoc h r⟩
theorem slx_trans : ∀ {r t u : List Int}, slx r t → slx t u → slx r u
  | [], _, _, h, _ => h.elim
  | a :: r, [], _, h, _ => h.elim
  | a :: r, b :: t, [], _, g => g.elim
  | a :: r, b :: t, c :: u, h, g => by
    rcases h with h | ⟨h, h'⟩ <;> rcases g with g | ⟨g, g'⟩
    · exact .inl (by omega)
    · exact .inl (by omega)
    · exact .inl (by omega)
    · exact .inr ⟨by omega, slx_trans h' g'⟩
theorem lx_trans {r t u : List Int} (h : lx r t) (g : lx t u) : lx r u := by
  rcases h with h | rfl
  · rcases g with g | rfl
    · exact .inl (slx_trans h g)
    · exact .inl h
  · exact g
theorem lx_snoc {r t : List Int} (c : Int) (h : lx r t) : lx (r ++ [c]) (t ++ [c]) := by
  rcases h with h | rfl
  · exact .inl (slx_app _ _ h)
  · exact .inr rfl
/-! one layer -/
abbrev Lay := List (Sta × List Int)
structure Tr where
  s : Sta
  row : List Int
  c : Int
def Tr.r (t : Tr) : List Int := t.row ++ [t.c]
section
variable (nx : Sta → Int → Sta) (pt : Sta → Int → Bool)
inductive SR where
  | hit (r : List Int) | go (S : List Sta) (Fo : Lay)
def scan : List Tr → List Sta → Lay → SR
  | [], S, Fo => .go S Fo
  | t :: P, S, Fo => if pt t.s t.c = true then .hit t.r else if nx t.s t.c ∈ S then scan P S Fo else scan P (S ++ [nx t.s t.c]) (Fo ++ [(nx t.s t.c, t.r)])
def pairs (cs : List Int) (L : Lay) : List Tr := L.flatMap fun p => cs.map fun c => ⟨p.1, p.2, c⟩
def runS (s : Sta) : List Int → Sta
  | [] => s
  | c :: r => runS (nx s c) r
def agr (s : Sta) : List Int → Bool
  | [] => true
  | c :: r => !pt s c && agr (nx s c) r
theorem runS_snoc : ∀ (r : List Int) (s : Sta) (c : Int), runS nx s (r ++ [c]) = nx (runS nx s r) c
  | [], _, _ => rfl
  | a :: r, s, c => runS_snoc r (nx s a) c
theorem agr_snoc : ∀ (r : List Int) (s : Sta) (c : Int), agr nx pt s (r ++ [c]) = (agr nx pt s r && !pt (runS nx s r) c)
  | [], s, c => by show (!pt s c && true) = (true && !pt s c); rw [Bool.and_true, Bool.true_and]
  | a :: r, s, c => by
    show (!pt s a && agr nx pt (nx s a) (r ++ [c])) = (!pt s a && agr nx pt (nx s a) r && !pt (runS nx (nx s a) r) c)
    rw [agr_snoc r (nx s a) c, Bool.and_assoc]
theorem scan_go : ∀ (P : List Tr) (S : List Sta) (Fo : Lay) {S' : List Sta} {Fo' : Lay}, P.Pairwise (fun t u => slx t.r u.r) → scan nx pt P S Fo = .go S' Fo' →
    ∃ new : Lay, Fo' = Fo ++ new ∧ S' = S ++ new.map (·.1) ∧ (∀ t ∈ P, pt t.s t.c = false) ∧ (∀ q ∈ new, ∃ t ∈ P, q = (nx t.s t.c, t.r)) ∧
      (∀ t ∈ P, nx t.s t.c ∈ S ∨ ∃ q ∈ new, q.1 = nx t.s t.c ∧ lx q.2 t.r) ∧ (S.Nodup → S'.Nodup) ∧ new.Pairwise (fun p q => slx p.2 q.2)
  | [], S, Fo, S', Fo', _, h => by
    cases h
    exact ⟨[], by simp, by simp, by simp, by simp, by simp, id, .nil⟩
  | t :: P, S, Fo, S', Fo', hp, h => by
    rw [scan] at h
    rw [List.pairwise_cons] at hp
    by_cases h1 : pt t.s t.c = true
    · rw [if_pos h1] at h; cases h
    · rw [if_neg h1] at h
      have h1' : pt t.s t.c = false := by simpa using h1
      by_cases h2 : nx t.s t.c ∈ S
      · rw [if_pos h2] at h
        obtain ⟨new, a1, a2, a3, a4, a5, a6, a7⟩ := scan_go P S Fo hp.2 h
        refine ⟨new, a1, a2, ?_, fun q hq => ?_, ?_, a6, a7⟩
        · intro u hu
          rcases List.mem_cons.mp hu with rfl | hu
          · exact h1'
          · exact a3 u hu
        · obtain ⟨u, hu, e⟩ := a4 q hq
          exact ⟨u, List.mem_cons_of_mem _ hu, e⟩
        · intro u hu
          rcases List.mem_cons.mp hu with rfl | hu
          · exact .inl h2
          · exact a5 u hu
      · rw [if_neg h2] at h
        obtain ⟨new, a1, a2, a3, a4, a5, a6, a7⟩ := scan_go P _ _ hp.2 h
        refine ⟨(nx t.s t.c, t.r) :: new, by rw [a1, List.append_assoc]; rfl, by rw [a2, List.append_assoc]; rfl, ?_, fun q hq => ?_, ?_, fun hn => a6 ?_, ?_⟩
        · intro u hu
          rcases List.mem_cons.mp hu with rfl | hu
          · exact h1'
          · exact a3 u hu
        · rcases List.mem_cons.mp hq with rfl | hq
          · exact ⟨t, List.mem_cons_self, rfl⟩
          · obtain ⟨u, hu, e⟩ := a4 q hq
            exact ⟨u, List.mem_cons_of_mem _ hu, e⟩
        · intro u hu
          rcases List.mem_cons.mp hu with rfl | hu
          · exact .inr ⟨_, List.mem_cons_self, rfl, .inr rfl⟩
          · rcases a5 u hu with h3 | ⟨q, hq, e, l⟩
            · rcases List.mem_append.mp h3 with h3 | h3
              · exact .inl h3
              · exact .inr ⟨_, List.mem_cons_self, (List.mem_singleton.mp h3).symm, .inl (hp.1 u hu)⟩
            · exact .inr ⟨q, List.mem_cons_of_mem _ hq, e, l⟩
        · rw [List.nodup_append]
          exact ⟨hn, by simp, fun a ha b hb => by rw [List.mem_singleton.mp hb]; exact fun z => h2 (z ▸ ha)⟩
        · rw [List.pairwise_cons]
          refine ⟨fun q hq => ?_, a7⟩
          obtain ⟨u, hu, rfl⟩ := a4 q hq
          exact hp.1 u hu
theorem scan_hit : ∀ (P : List Tr) (S : List Sta) (Fo : Lay) {r : List Int}, scan nx pt P S Fo = .hit r → ∃ P1 t P2, P = P1 ++ t :: P2 ∧ r = t.r ∧ pt t.s t.c = true ∧ ∀ u ∈ P1, pt u.s u.c = false
  | [], S, Fo, r, h => by cases h
  | t :: P, S, Fo, r, h => by
    rw [scan] at h
    by_cases h1 : pt t.s t.c = true
    · rw [if_pos h1] at h
      cases h
      exact ⟨[], t, P, rfl, rfl, h1, by simp⟩
    · rw [if_neg h1] at h
      have h1' : pt t.s t.c = false := by simpa using h1
      have key : ∀ {S Fo}, scan nx pt P S Fo = .hit r → ∃ P1 u P2, t :: P = P1 ++ u :: P2 ∧ r = u.r ∧ pt u.s u.c = true ∧ ∀ v ∈ P1, pt v.s v.c = false := fun {S Fo} h => by
        obtain ⟨P1, u, P2, e1, e2, e3, e4⟩ := scan_hit P S Fo h
        refine ⟨t :: P1, u, P2, by rw [e1]; rfl, e2, e3, fun v hv => ?_⟩
        rcases List.mem_cons.mp hv with rfl | hv
        · exact h1'
        · exact e4 v hv
      by_cases h2 : nx t.s t.c ∈ S
      · rw [if_pos h2] at h; exact key h
      · rw [if_neg h2] at h; exact key h
variable (s0 : Sta) (cs : List Int)
def Ov (row : List Int) : Prop := ∀ c ∈ row, c ∈ cs
structure BI (n : Nat) (S : List Sta) (L : Lay) : Prop where
  i1 : ∀ p ∈ L, p.2.length = n ∧ Ov cs p.2 ∧ runS nx s0 p.2 = p.1
  i2 : L.Pairwise (fun p q => slx p.2 q.2)
  i3 : ∀ row, row.length = n → Ov cs row → (∃ p ∈ L, p.1 = runS nx s0 row ∧ lx p.2 row) ∨ ∃ row', row'.length < n ∧ Ov cs row' ∧ runS nx s0 row' = runS nx s0 row
  i4 : ∀ s, s ∈ S ↔ ∃ row, row.length ≤ n ∧ Ov cs row ∧ runS nx s0 row = s
  i5 : ∀ row, row.length ≤ n → Ov cs row → agr nx pt s0 row = true
  i6 : S.Nodup
theorem bi_zero : BI nx pt s0 cs 0 [s0] [(s0, [])] := by
  refine ⟨?_, ?_, ?_, ?_, ?_, by simp⟩
  · intro p hp
    rw [List.mem_singleton] at hp
    subst hp
    exact ⟨rfl, fun c hc => (by cases hc), rfl⟩
  · exact List.pairwise_singleton _ _
  · intro row hr _
    have : row = [] := List.length_eq_zero_iff.mp hr
    subst this
    exact .inl ⟨_, List.mem_singleton.mpr rfl, rfl, .inr rfl⟩
  · intro s
    rw [List.mem_singleton]
    constructor
    · rintro rfl; exact ⟨[], Nat.le_refl _, fun c hc => (by cases hc), rfl⟩
    · rintro ⟨row, hr, _, rfl⟩
      have : row = [] := List.length_eq_zero_iff.mp (by omega)
      subst this; rfl
  · intro row hr _
    have : row = [] := List.length_eq_zero_iff.mp (by omega)
    subst this; rfl
theorem pairs_sorted (hcs : cs.Pairwise (· < ·)) : ∀ {L : Lay}, L.Pairwise (fun p q => slx p.2 q.2) → (pairs cs L).Pairwise (fun t u => slx t.r u.r)
  | [], _ => .nil
  | p :: L, h => by
    rw [List.pairwise_cons] at h
    show (cs.map _ ++ pairs cs L).Pairwise _
    rw [List.pairwise_append]
    refine ⟨?_, pairs_sorted hcs h.2, fun t ht u hu => ?_⟩
    · rw [List.pairwise_map]
      exact hcs.imp fun {a b} hab => slx_snoc hab p.2
    · obtain ⟨c, _, rfl⟩ := List.mem_map.mp ht
      obtain ⟨q, hq, hu⟩ := List.mem_flatMap.mp hu
      obtain ⟨d, _, rfl⟩ := List.mem_map.mp hu
      exact slx_app _ _ (h.1 q hq)
theorem mem_pairs {L : Lay} {t : Tr} : t ∈ pairs cs L ↔ (t.s, t.row) ∈ L ∧ t.c ∈ cs := by
  unfold pairs
  rw [List.mem_flatMap]
  constructor
  · rintro ⟨p, hp, h⟩
    obtain ⟨c, hc, rfl⟩ := List.mem_map.mp h
    exact ⟨hp, hc⟩
  · rintro ⟨h1, h2⟩
    exact ⟨_, h1, List.mem_map.mpr ⟨t.c, h2, rfl⟩⟩
theorem ov_snoc {row : List Int} {c : Int} : Ov cs (row ++ [c]) ↔ Ov cs row ∧ c ∈ cs := by
  unfold Ov
  constructor
  · intro h
    exact ⟨fun d hd => h d (List.mem_append_left _ hd), h c (by simp)⟩
  · rintro ⟨h1, h2⟩ d hd
    rcases List.mem_append.mp hd with hd | hd
    · exact h1 d hd
    · rw [List.mem_singleton.mp hd]; exact h2
theorem snoc_of {row : List Int} {n : Nat} (h : row.length = n + 1) : ∃ i c, row = i ++ [c] ∧ i.length = n := by
  have hne : row ≠ [] := fun z => by rw [z] at h; cases h
  refine ⟨row.dropLast, row.getLast hne, (List.dropLast_concat_getLast hne).symm, ?_⟩
  rw [List.length_dropLast, h]; rfl
theorem bi_next (hcs : cs.Pairwise (· < ·)) {n : Nat} {S S' : List Sta} {L Fo : Lay} (B : BI nx pt s0 cs n S L) (h : scan nx pt (pairs cs L) S [] = .go S' Fo) : BI nx pt s0 cs (n + 1) S' Fo := by
  obtain ⟨new, a1, a2, a3, a4, a5, a6, a7⟩ := scan_go nx pt _ _ _ (pairs_sorted cs hcs B.i2) h
  rw [List.nil_append] at a1
  subst a1
  have step : ∀ i c, i.length = n → Ov cs i → c ∈ cs → (∃ p ∈ L, p.1 = runS nx s0 i ∧ lx p.2 i ∧ pt (runS nx s0 i) c = false ∧ (nx (runS nx s0 i) c ∈ S ∨ ∃ q ∈ Fo, q.1 = nx (runS nx s0 i) c ∧ lx q.2 (p.2 ++ [c]))) ∨ (∃ row', row'.length < n ∧ Ov cs row' ∧ runS nx s0 row' = runS nx s0 i) := fun i c hi ho hc => by
    rcases B.i3 i hi ho with ⟨p, hp, e, l⟩ | r
    · refine .inl ⟨p, hp, e, l, ?_, ?_⟩
      · rw [← e]; exact a3 ⟨p.1, p.2, c⟩ ((mem_pairs cs).mpr ⟨hp, hc⟩)
      · rw [← e]; exact a5 ⟨p.1, p.2, c⟩ ((mem_pairs cs).mpr ⟨hp, hc⟩)
    · exact .inr r
  have i3 : ∀ row, row.length = n + 1 → Ov cs row → (∃ p ∈ Fo, p.1 = runS nx s0 row ∧ lx p.2 row) ∨ ∃ row', row'.length < n + 1 ∧ Ov cs row' ∧ runS nx s0 row' = runS nx s0 row := fun row hr ho => by
    obtain ⟨i, c, rfl, hi⟩ := snoc_of hr
    obtain ⟨ho, hc⟩ := (ov_snoc cs).mp ho
    rw [runS_snoc]
    rcases step i c hi ho hc with ⟨p, hp, e, l, _, hS | ⟨q, hq, e2, l2⟩⟩ | ⟨row', h1, h2, h3⟩
    · obtain ⟨row', h1, h2, h3⟩ := (B.i4 _).mp hS
      exact .inr ⟨row', by omega, h2, h3⟩
    · exact .inl ⟨q, hq, e2, lx_trans l2 (lx_snoc c l)⟩
    · exact .inr ⟨row' ++ [c], by simp; omega, (ov_snoc cs).mpr ⟨h2, hc⟩, by rw [runS_snoc, h3]⟩
  refine ⟨fun q hq => ?_, a7, i3, fun s => ?_, fun row hr ho => ?_, a6 B.i6⟩
  · obtain ⟨t, ht, rfl⟩ := a4 q hq
    obtain ⟨h1, h2⟩ := (mem_pairs cs).mp ht
    obtain ⟨k1, k2, k3⟩ := B.i1 _ h1
    refine ⟨by show (t.row ++ [t.c]).length = _; simp; exact k1, (ov_snoc cs).mpr ⟨k2, h2⟩, ?_⟩
    show runS nx s0 (t.row ++ [t.c]) = _
    rw [runS_snoc]
    show nx (runS nx s0 t.row) t.c = nx t.s t.c
    rw [show runS nx s0 t.row = t.s from k3]
  · rw [a2, List.mem_append]
    constructor
    · rintro (h | h)
      · obtain ⟨row, h1, h2, h3⟩ := (B.i4 s).mp h
        exact ⟨row, by omega, h2, h3⟩
      · obtain ⟨q, hq, rfl⟩ := List.mem_map.mp h
        obtain ⟨t, ht, rfl⟩ := a4 q hq
        obtain ⟨h1, h2⟩ := (mem_pairs cs).mp ht
        obtain ⟨k1, k2, k3⟩ := B.i1 _ h1
        refine ⟨t.row ++ [t.c], by simp; exact Nat.le_of_eq k1, (ov_snoc cs).mpr ⟨k2, h2⟩, ?_⟩
        rw [runS_snoc, show runS nx s0 t.row = t.s from k3]
    · rintro ⟨row, h1, h2, h3⟩
      by_cases hn : row.length ≤ n
      · exact .inl ((B.i4 s).mpr ⟨row, hn, h2, h3⟩)
      · rcases i3 row (by omega) h2 with ⟨p, hp, e, _⟩ | ⟨row', g1, g2, g3⟩
        · exact .inr (List.mem_map.mpr ⟨p, hp, by rw [e, h3]⟩)
        · exact .inl ((B.i4 s).mpr ⟨row', by omega, g2, by rw [g3, h3]⟩)
  · by_cases hn : row.length ≤ n
    · exact B.i5 row hn ho
    · obtain ⟨i, c, rfl, hi⟩ := snoc_of (row := row) (n := n) (by omega)
      obtain ⟨ho, hc⟩ := (ov_snoc cs).mp ho
      rw [agr_snoc, B.i5 i (by omega) ho, Bool.true_and]
      rcases step i c hi ho hc with ⟨p, hp, e, l, hpt, _⟩ | ⟨row', h1, h2, h3⟩
      · rw [hpt]; rfl
      · have := B.i5 (row' ++ [c]) (by simp; omega) ((ov_snoc cs).mpr ⟨h2, hc⟩)
        rw [agr_snoc, Bool.and_eq_true] at this
        rw [← h3]; exact this.2
/-- what is told of two rules -/
def FS : Option (List Int) → Prop
  | none => ∀ row, Ov cs row → agr nx pt s0 row = true
  | some r => Ov cs r ∧ (∃ i c, r = i ++ [c] ∧ agr nx pt s0 i = true ∧ pt (runS nx s0 i) c = true) ∧ ∀ row, Ov cs row → agr nx pt s0 row = false → r.length < row.length ∨ (r.length = row.length ∧ lx r row)
theorem bi_hit (hcs : cs.Pairwise (· < ·)) {n : Nat} {S : List Sta} {L : Lay} (B : BI nx pt s0 cs n S L) {r : List Int} (h : scan nx pt (pairs cs L) S [] = .hit r) : r.length = n + 1 ∧ FS nx pt s0 cs (some r) := by
  have hs := pairs_sorted cs hcs B.i2
  obtain ⟨P1, t, P2, e1, rfl, e3, e4⟩ := scan_hit nx pt _ _ _ h
  rw [e1] at hs
  have ht : t ∈ pairs cs L := by rw [e1]; simp
  obtain ⟨h1, h2⟩ := (mem_pairs cs).mp ht
  obtain ⟨k1, k2, k3⟩ := B.i1 _ h1
  have k3' : runS nx s0 t.row = t.s := k3
  have hl : t.r.length = n + 1 := by show (t.row ++ [t.c]).length = _; simp; exact k1
  refine ⟨hl, (ov_snoc cs).mpr ⟨k2, h2⟩, ⟨t.row, t.c, rfl, B.i5 _ (Nat.le_of_eq k1) k2, by rw [k3']; exact e3⟩, fun row ho ha => ?_⟩
  rw [hl]
  by_cases hn : row.length ≤ n
  · rw [B.i5 row hn ho] at ha; cases ha
  by_cases hn1 : row.length = n + 1
  · refine .inr ⟨hn1.symm, ?_⟩
    obtain ⟨i, c, rfl, hi⟩ := snoc_of hn1
    obtain ⟨ho, hc⟩ := (ov_snoc cs).mp ho
    rw [agr_snoc, B.i5 i (by omega) ho, Bool.true_and, Bool.not_eq_false'] at ha
    rcases B.i3 i hi ho with ⟨p, hp, e, l⟩ | ⟨row', g1, g2, g3⟩
    · have hu : (⟨p.1, p.2, c⟩ : Tr) ∈ pairs cs L := (mem_pairs cs).mpr ⟨hp, hc⟩
      have hup : pt p.1 c = true := by rw [e]; exact ha
      rw [e1] at hu
      have l1 : lx t.r (p.2 ++ [c]) := by
        rcases List.mem_append.mp hu with hu | hu
        · rw [e4 _ hu] at hup; cases hup
        · rcases List.mem_cons.mp hu with hu | hu
          · rw [← hu]; exact .inr rfl
          · rw [List.pairwise_append] at hs
            have := hs.2.1
            rw [List.pairwise_cons] at this
            exact .inl (this.1 _ hu)
      exact lx_trans l1 (lx_snoc c l)
    · have := B.i5 (row' ++ [c]) (by simp; omega) ((ov_snoc cs).mpr ⟨g2, hc⟩)
      rw [agr_snoc, Bool.and_eq_true, g3, ha] at this
      cases this.2
  · exact .inl (by omega)
theorem bi_end {n : Nat} {S : List Sta} (B : BI nx pt s0 cs n S []) : FS nx pt s0 cs none := by
  have clo : ∀ k (row : List Int), row.length = k → Ov cs row → agr nx pt s0 row = true ∧ ∃ row', row'.length < n ∧ Ov cs row' ∧ runS nx s0 row' = runS nx s0 row := by
    intro k
    induction k with
    | zero =>
      intro row hr ho
      have : row = [] := List.length_eq_zero_iff.mp hr
      subst this
      refine ⟨rfl, ?_⟩
      by_cases hn : n = 0
      · subst hn
        rcases B.i3 [] rfl ho with ⟨p, hp, _⟩ | h
        · cases hp
        · exact h
      · exact ⟨[], by simp; omega, ho, rfl⟩
    | succ k ih =>
      intro row hr ho
      obtain ⟨i, c, rfl, hi⟩ := snoc_of hr
      obtain ⟨ho, hc⟩ := (ov_snoc cs).mp ho
      obtain ⟨h1, row', g1, g2, g3⟩ := ih i hi ho
      have ho' : Ov cs (row' ++ [c]) := (ov_snoc cs).mpr ⟨g2, hc⟩
      have := B.i5 (row' ++ [c]) (by simp; omega) ho'
      rw [agr_snoc, Bool.and_eq_true, g3] at this
      refine ⟨by rw [agr_snoc, h1, this.2]; rfl, ?_⟩
      by_cases hn : (row' ++ [c]).length = n
      · rcases B.i3 _ hn ho' with ⟨p, hp, _⟩ | ⟨row2, f1, f2, f3⟩
        · cases hp
        · exact ⟨row2, f1, f2, by rw [f3, runS_snoc, runS_snoc, g3]⟩
      · exact ⟨row' ++ [c], by simp at hn ⊢; omega, ho', by rw [runS_snoc, runS_snoc, g3]⟩
  exact fun row ho => (clo _ row rfl ho).1
end
end Lr

/-! states as keys; the trim tells nothing away; how many states there are -/
namespace Lr
open PySem Ab
section
variable {α : Type}
def dS (f : α → DD) (kvs : List (Sta × α)) : List (DD × DD) := kvs.map fun p => (p.1.d, f p.2)
def look (kvs : List (Sta × α)) (t : Sta) : Option α := (kvs.find? fun p => decide (p.1 = t)).map (·.2)
def putS (kvs : List (Sta × α)) (t : Sta) (v : α) : List (Sta × α) := if (look kvs t).isSome = true then kvs.map (fun p => if p.1 = t then (p.1, v) else p) else kvs ++ [(t, v)]
theorem nk_sta {s t : Sta} : nk s.d = nk t.d ↔ s = t := by
  constructor
  · intro e
    cases s; cases t
    simp only [Sta.d, lnD, nk, nks, NestedKey.tup.injEq, List.cons.injEq, NestedKey.num.injEq, and_true] at e
    obtain ⟨rfl, rfl, rfl, rfl, rfl, rfl, rfl⟩ := e
    rfl
  · rintro rfl; rfl
theorem key_sta (s : Sta) : isKey s.d = true := rfl
theorem find_dS (f : α → DD) (kvs : List (Sta × α)) (t : Sta) : dfind (dS f kvs) (nk t.d) = (look kvs t).map f := by
  induction kvs with
  | nil => rfl
  | cons p kvs ih =>
    show dfind ((p.1.d, f p.2) :: dS f kvs) _ = _
    rw [dfind_cons, ih]
    unfold look
    rw [List.find?_cons]
    by_cases e : p.1 = t
    · rw [if_pos (nk_sta.mpr e), decide_eq_true e]; rfl
    · rw [if_neg (fun z => e (nk_sta.mp z)), decide_eq_false e]
theorem has_dS (f : α → DD) (kvs : List (Sta × α)) (t : Sta) : dhas (dS f kvs) (nk t.d) = (look kvs t).isSome := by
  unfold dhas
  rw [find_dS, Option.isSome_map]
theorem put_dS (f : α → DD) (kvs : List (Sta × α)) (t : Sta) (v : α) : dput (dS f kvs) t.d (f v) = dS f (putS kvs t v) := by
  unfold dput putS
  rw [has_dS]
  split
  · unfold dS
    rw [List.map_map, List.map_map]
    refine List.map_congr_left fun p _ => ?_
    by_cases e : p.1 = t
    · simp only [Function.comp, if_pos e, if_pos (nk_sta.mpr e)]
    · simp only [Function.comp, if_neg e, if_neg (fun z => e (nk_sta.mp z))]
  · unfold dS
    rw [List.map_append]; rfl
theorem look_none {kvs : List (Sta × α)} {t : Sta} : look kvs t = none ↔ t ∉ kvs.map (·.1) := by
  unfold look
  rw [Option.map_eq_none_iff, List.find?_eq_none]
  constructor
  · intro h m
    obtain ⟨p, hp, rfl⟩ := List.mem_map.mp m
    exact h p hp (decide_eq_true rfl)
  · intro h p hp e
    exact h (List.mem_map.mpr ⟨p, hp, of_decide_eq_true e⟩)
theorem look_some {kvs : List (Sta × α)} {t : Sta} : (look kvs t).isSome = decide (t ∈ kvs.map (·.1)) := by
  by_cases h : t ∈ kvs.map (·.1)
  · rw [decide_eq_true h]
    cases e : look kvs t with
    | none => exact absurd h (look_none.mp e)
    | some v => rfl
  · rw [decide_eq_false h, look_none.mpr h]; rfl
theorem putS_new {kvs : List (Sta × α)} {t : Sta} (h : t ∉ kvs.map (·.1)) (v : α) : putS kvs t v = kvs ++ [(t, v)] := by
  unfold putS
  rw [look_none.mpr h]; rfl
theorem dS_len (f : α → DD) (kvs : List (Sta × α)) : (dS f kvs).length = kvs.length := List.length_map ..
end
/-! the trim -/
def tickB (room pause : Int) (ch : Bool) (s : Sta) (c : Int) : Res :=
  let a1 := min room (s.a + bit0 c)
  let b1 := min room (s.b + bit1 c)
  let lost := (s.a + bit0 c) + (s.b + bit1 c) - (a1 + b1)
  let road := if ch then 1 - s.road else s.road
  let left0 := if ch then pause + 1 else s.left
  let age := if ch then 0 else s.age
  let rest := if ch then 0 else s.rest
  let wait := if ch then 0 else s.wait
  let left := max 0 (left0 - 1)
  let light := if left = 0 then Lt.r road else Lt.dark
  let passed := if left = 0 ∧ ln road a1 b1 ≠ 0 then 1 else 0
  let a2 := if left = 0 ∧ road = 0 then a1 - passed else a1
  let b2 := if left = 0 ∧ road ≠ 0 then b1 - passed else b1
  let age' := if left = 0 then age + 1 else age
  let rest' := if left = 0 then (if passed > 0 then 0 else rest + 1) else rest
  let wait' := if ln (1 - road) a2 b2 > 0 then wait + 1 else 0
  ⟨⟨road, left, age', rest', wait', a2, b2⟩, light, passed, lost⟩
def chg (room : Int) (rule : Rule) (s : Sta) (c : Int) : Bool := decide (s.left = 0) && changes rule s.road s.age s.rest s.wait (min room (s.a + bit0 c)) (min room (s.b + bit1 c))
theorem tick_B (room pause : Int) (rule : Rule) (s : Sta) (c : Int) : tick room pause rule s c = tickB room pause (chg room rule s c) s c := rfl
def Dom (l : Lim) (rule : Rule) : Prop := (cmpd rule).a ≤ l.a ∧ (cmpd rule).r ≤ l.r ∧ (cmpd rule).w ≤ l.w
theorem dom_l (x y : Rule) : Dom ((cmpd x).mx (cmpd y)) x := ⟨by show _ ≤ max _ _; omega, by show _ ≤ max _ _; omega, by show _ ≤ max _ _; omega⟩
theorem dom_r (x y : Rule) : Dom ((cmpd x).mx (cmpd y)) y := ⟨by show _ ≤ max _ _; omega, by show _ ≤ max _ _; omega, by show _ ≤ max _ _; omega⟩
theorem dom_1 (x : Rule) : Dom (cmpd x) x := ⟨Int.le_refl _, Int.le_refl _, Int.le_refl _⟩
theorem le_min {n a b : Int} (h : n ≤ b) : decide (n ≤ min a b) = decide (n ≤ a) := decide_eq_decide.mpr (by omega)
theorem changes_trim {rule : Rule} {la lr lw : Int} (h1 : (cmpd rule).a ≤ la) (h2 : (cmpd rule).r ≤ lr) (h3 : (cmpd rule).w ≤ lw) {road : Int} (hr : road = 0 ∨ road = 1) (age rest wait a b : Int) : changes rule road (min age la) (min rest lr) (min wait lw) a b = changes rule road age rest wait a b := by
  cases rule with
  | asked n => simp only [cmpd, changes] at *; rw [le_min h1]
  | clock x y =>
    simp only [cmpd, changes] at *
    rw [le_min]
    rcases hr with e | e <;> rw [e] <;> simp only [ln] <;> simp <;> omega
  | due n => simp only [cmpd, changes] at *; rw [le_min h3]
  | empty n => simp only [cmpd, changes] at *; rw [le_min h1]
  | gap i m => simp only [cmpd, changes] at *; rw [le_min h1, le_min h2]
  | longer n => simp only [cmpd, changes] at *; rw [le_min h1]
theorem chg_trim {l : Lim} {rule : Rule} (h : Dom l rule) (room : Int) {s : Sta} (hr : s.road = 0 ∨ s.road = 1) (c : Int) : chg room rule (trim l s) c = chg room rule s c :=
  congrArg (decide (s.left = 0) && ·) (changes_trim h.1 h.2.1 h.2.2 hr s.age s.rest s.wait _ _)
theorem trim_B (l : Lim) (room pause : Int) (ch : Bool) (s : Sta) (c : Int) : trim l (tickB room pause ch (trim l s) c).s = trim l (tickB room pause ch s c).s := by
  simp only [tickB, trim, Sta.mk.injEq, true_and, and_true]
  refine ⟨?_, ?_, ?_⟩
  · cases ch <;> simp only [if_true, if_false, Bool.false_eq_true] <;> split <;> omega
  · cases ch <;> simp only [if_true, if_false, Bool.false_eq_true] <;> split <;> (try split) <;> omega
  · cases ch <;> simp only [if_true, if_false, Bool.false_eq_true, and_self, and_true]
    split <;> omega
theorem light_B (l : Lim) (room pause : Int) (ch : Bool) (s : Sta) (c : Int) : (tickB room pause ch (trim l s) c).light = (tickB room pause ch s c).light := rfl
theorem lit_trim {l : Lim} {rule : Rule} (h : Dom l rule) (room pause : Int) {s : Sta} (hr : s.road = 0 ∨ s.road = 1) (c : Int) : lit room pause rule (trim l s) c = lit room pause rule s c := by
  unfold lit
  rw [tick_B, tick_B, chg_trim h room hr, light_B]
theorem stp_trim {l : Lim} {rule : Rule} (h : Dom l rule) (room pause : Int) {s : Sta} (hr : s.road = 0 ∨ s.road = 1) (c : Int) : stp room pause l rule (trim l s) c = trim l (tick room pause rule s c).s := by
  unfold stp
  rw [tick_B, tick_B, chg_trim h room hr, trim_B]
theorem lightB1 {room pause c : Int} {s : Sta} (hp : 0 ≤ pause) : (tickB room pause true s c).light = if pause = 0 then .r (1 - s.road) else .dark := by
  show (if max 0 (pause + 1 - 1) = 0 then Lt.r (1 - s.road) else .dark) = _
  by_cases h : pause = 0
  · rw [if_pos h, if_pos (by omega)]
  · rw [if_neg h, if_neg (by omega)]
theorem lightB0 {room pause c : Int} {s : Sta} (h0 : s.left = 0) : (tickB room pause false s c).light = .r s.road := by
  show (if max 0 (s.left - 1) = 0 then Lt.r s.road else .dark) = _
  rw [if_pos (by omega)]
theorem light_ne {room pause c : Int} {s : Sta} (hp : 0 ≤ pause) (hr : s.road = 0 ∨ s.road = 1) (h0 : s.left = 0) : (tickB room pause true s c).light ≠ (tickB room pause false s c).light := by
  rw [lightB1 hp, lightB0 h0]
  split
  · intro h
    injection h with h
    rcases hr with e | e <;> rw [e] at h <;> omega
  · intro h; cases h
/-- the light tells whether there was a change -/
theorem same_light {room pause : Int} {one other : Rule} {s : Sta} {c : Int} (hp : 0 ≤ pause) (hr : s.road = 0 ∨ s.road = 1) (h : lit room pause one s c = lit room pause other s c) : tick room pause one s c = tick room pause other s c := by
  unfold lit at h
  rw [tick_B, tick_B] at h ⊢
  suffices hc : chg room one s c = chg room other s c by rw [hc]
  by_cases h0 : s.left = 0
  · cases h1 : chg room one s c <;> cases h2 : chg room other s c
    · rfl
    · rw [h1, h2] at h; exact absurd h.symm (light_ne hp hr h0)
    · rw [h1, h2] at h; exact absurd h (light_ne hp hr h0)
    · rfl
  · unfold chg
    rw [decide_eq_false h0, Bool.false_and, Bool.false_and]
def litF (room pause : Int) (rule : Rule) (s : Sta) (cs : List Int) : List Lt := (run room pause rule s cs).map (·.light)
theorem litF_cons (room pause : Int) (rule : Rule) (s : Sta) (c : Int) (cs : List Int) : litF room pause rule s (c :: cs) = lit room pause rule s c :: litF room pause rule (tick room pause rule s c).s cs := rfl
def ptR (room pause : Int) (one other : Rule) (s : Sta) (c : Int) : Bool := !decide (lit room pause one s c = lit room pause other s c)
theorem agr_lights {room pause : Int} {l : Lim} {one other : Rule} (hc : CrOk room pause) (h1 : Dom l one) (h2 : Dom l other) : ∀ (row : List Int) (s t : Sta), (∀ c ∈ row, ComOk c) → StaOk room s → StaOk room t → trim l s = trim l t →
    (agr (stp room pause l one) (ptR room pause one other) (trim l s) row = true ↔ litF room pause one s row = litF room pause other t row)
  | [], s, t, _, _, _, _ => ⟨fun _ => rfl, fun _ => rfl⟩
  | c :: row, s, t, hk, hs, ht, e => by
    have e1 := lit_trim h1 room pause hs.1 c
    have e2 := lit_trim h2 room pause ht.1 c
    rw [← e] at e2
    rw [litF_cons, litF_cons, agr, Bool.and_eq_true, ptR, Bool.not_not, decide_eq_true_eq, e1, e2, List.cons.injEq]
    have hc0 := hk c List.mem_cons_self
    have hr : (trim l s).road = 0 ∨ (trim l s).road = 1 := hs.1
    constructor
    · rintro ⟨a, b⟩
      refine ⟨a, ?_⟩
      have sl := same_light (one := one) (other := other) hc.2.1 hr (by rw [e1, e2]; exact a)
      have t1 := stp_trim h1 room pause hs.1 c
      have t2 := stp_trim h2 room pause ht.1 c
      rw [t1] at b
      refine (agr_lights hc h1 h2 row _ _ (fun d hd => hk d (List.mem_cons_of_mem _ hd)) (tick_ok hc hs hc0) (tick_ok hc ht hc0) ?_).mp b
      rw [← t1, ← t2, ← e]
      unfold stp
      rw [sl]
    · rintro ⟨a, b⟩
      refine ⟨a, ?_⟩
      have sl := same_light (one := one) (other := other) hc.2.1 hr (by rw [e1, e2]; exact a)
      have t1 := stp_trim h1 room pause hs.1 c
      have t2 := stp_trim h2 room pause ht.1 c
      rw [t1]
      refine (agr_lights hc h1 h2 row _ _ (fun d hd => hk d (List.mem_cons_of_mem _ hd)) (tick_ok hc hs hc0) (tick_ok hc ht hc0) ?_).mpr b
      rw [← t1, ← t2, ← e]
      unfold stp
      rw [sl]
/-! how many states -/
def Box (s : Sta) : Prop := (s.road = 0 ∨ s.road = 1) ∧ (0 ≤ s.left ∧ s.left ≤ 3) ∧ (0 ≤ s.age ∧ s.age ≤ 4) ∧ (0 ≤ s.rest ∧ s.rest ≤ 4) ∧ (0 ≤ s.wait ∧ s.wait ≤ 4) ∧ (0 ≤ s.a ∧ s.a ≤ 3) ∧ 0 ≤ s.b ∧ s.b ≤ 3
def LimOk (l : Lim) : Prop := (0 ≤ l.a ∧ l.a ≤ 4) ∧ (0 ≤ l.r ∧ l.r ≤ 4) ∧ 0 ≤ l.w ∧ l.w ≤ 4
theorem cmpd_ok {r : Rule} (h : r.ok) : LimOk (cmpd r) := by
  cases r <;> simp only [Rule.ok, N4, cmpd, LimOk] at * <;> omega
theorem mx_ok {l m : Lim} (h : LimOk l) (g : LimOk m) : LimOk (l.mx m) := by
  simp only [LimOk, Lim.mx] at *; omega
def code (s : Sta) : Nat := ((((((s.road * 4 + s.left) * 5 + s.age) * 5 + s.rest) * 5 + s.wait) * 4 + s.a) * 4 + s.b).toNat
theorem code_lt {s : Sta} (h : Box s) : code s < 16000 := by
  obtain ⟨h1, h2, h3, h4, h5, h6, h7⟩ := h
  unfold code
  rcases h1 with e | e <;> rw [e] <;> omega
theorem rad4 {x y a b : Int} (h : x * 4 + a = y * 4 + b) (h1 : 0 ≤ a ∧ a ≤ 3) (h2 : 0 ≤ b ∧ b ≤ 3) : x = y ∧ a = b := by omega
theorem rad5 {x y a b : Int} (h : x * 5 + a = y * 5 + b) (h1 : 0 ≤ a ∧ a ≤ 4) (h2 : 0 ≤ b ∧ b ≤ 4) : x = y ∧ a = b := by omega
theorem code_inj {s t : Sta} (h : Box s) (g : Box t) (e : code s = code t) : s = t := by
  obtain ⟨h1, h2, h3, h4, h5, h6, h7⟩ := h
  obtain ⟨g1, g2, g3, g4, g5, g6, g7⟩ := g
  cases s; cases t
  unfold code at e
  simp only at *
  have e' : ∀ {x y : Int}, 0 ≤ x → 0 ≤ y → x.toNat = y.toNat → x = y := fun h1 h2 e => by omega
  have p := e' (by rcases h1 with z | z <;> rw [z] <;> omega) (by rcases g1 with z | z <;> rw [z] <;> omega) e
  obtain ⟨p, q1⟩ := rad4 p h7 g7
  obtain ⟨p, q2⟩ := rad4 p h6 g6
  obtain ⟨p, q3⟩ := rad5 p h5 g5
  obtain ⟨p, q4⟩ := rad5 p h4 g4
  obtain ⟨p, q5⟩ := rad5 p h3 g3
  obtain ⟨p, q6⟩ := rad4 p h2 g2
  rw [p, q1, q2, q3, q4, q5, q6]
theorem nodup_len {α : Type} [DecidableEq α] : ∀ (xs ys : List α), xs.Nodup → (∀ x ∈ xs, x ∈ ys) → xs.length ≤ ys.length
  | [], ys, _, _ => Nat.zero_le _
  | x :: xs, ys, hn, hs => by
    rw [List.nodup_cons] at hn
    have hx := hs x List.mem_cons_self
    have ih := nodup_len xs (ys.erase x) hn.2 fun y hy => (List.mem_erase_of_ne (fun z : y = x => hn.1 (by rw [← z]; exact hy))).mpr (hs y (List.mem_cons_of_mem _ hy))
    rw [List.length_erase_of_mem hx] at ih
    have : 0 < ys.length := List.length_pos_of_mem hx
    rw [List.length_cons]; omega
theorem box_len {S : List Sta} (hn : S.Nodup) (hb : ∀ s ∈ S, Box s) : S.length ≤ 16000 := by
  have h : (S.map code).length ≤ (List.range 16000).length := nodup_len _ _ (by
    refine List.pairwise_map.mpr (hn.imp_of_mem fun {a b} ha hb' hne e => hne (code_inj (hb a ha) (hb b hb') e))) fun x hx => by
      obtain ⟨s, hs, rfl⟩ := List.mem_map.mp hx
      exact List.mem_range.mpr (code_lt (hb s hs))
  simpa using h
theorem ite_nn {p : Prop} [Decidable p] {x y : Int} (hx : 0 ≤ x) (hy : 0 ≤ y) : 0 ≤ (if p then x else y) := by
  split <;> assumption
theorem min_in {v l : Int} (h : 0 ≤ v) (g : 0 ≤ l ∧ l ≤ 4) : 0 ≤ min v l ∧ min v l ≤ 4 := by omega
theorem nn1 {x : Int} (h : 0 ≤ x) : 0 ≤ x + 1 := by omega
theorem box_stp {room pause : Int} {l : Lim} {rule : Rule} {s : Sta} {c : Int} (hc : CrOk room pause) (hl : LimOk l) (hs : StaOk room s) (hb : Box s) (hk : ComOk c) : StaOk room (stp room pause l rule s c) ∧ Box (stp room pause l rule s c) := by
  have ok := tick_ok (rule := rule) hc hs hk
  refine ⟨ok, ok.1, ?_, ?_, ?_, ?_, ?_⟩
  · obtain ⟨_, b2, _⟩ := hb
    obtain ⟨_, c2⟩ := hc
    show 0 ≤ (tick room pause rule s c).s.left ∧ (tick room pause rule s c).s.left ≤ 3
    rw [tick_B]
    simp only [tickB]
    split <;> omega
  · obtain ⟨_, _, b3, _⟩ := hb
    exact min_in (ite_nn (nn1 (ite_nn (Int.le_refl _) b3.1)) (ite_nn (Int.le_refl _) b3.1)) hl.1
  · obtain ⟨_, _, _, b4, _⟩ := hb
    exact min_in (ite_nn (ite_nn (Int.le_refl _) (nn1 (ite_nn (Int.le_refl _) b4.1))) (ite_nn (Int.le_refl _) b4.1)) hl.2.1
  · obtain ⟨_, _, _, _, b5, _⟩ := hb
    exact min_in (ite_nn (nn1 (ite_nn (Int.le_refl _) b5.1)) (Int.le_refl _)) hl.2.2
  · obtain ⟨_, _, o3, o4⟩ := ok
    obtain ⟨c1, _⟩ := hc
    refine ⟨⟨o3.1, ?_⟩, o4.1, ?_⟩
    · show (tick room pause rule s c).s.a ≤ 3
      omega
    · show (tick room pause rule s c).s.b ≤ 3
      omega
theorem box0 : Box sta0 := by unfold Box sta0; simp
theorem trim0 {l : Lim} (h : LimOk l) : trim l sta0 = sta0 := by
  obtain ⟨h1, h2, h3⟩ := h
  simp only [trim, sta0, Sta.mk.injEq, true_and, and_true]
  omega
end Lr

/-! the family; what rules could be -/
namespace Lr
open PySem Ab
def famR : List Rule := [.asked 1, .asked 2, .asked 3, .clock 1 1, .clock 1 2, .clock 1 3, .clock 2 1, .clock 2 2, .clock 2 3, .clock 3 1, .clock 3 2, .clock 3 3, .due 1, .due 2, .due 3, .empty 2, .empty 3, .empty 4, .gap 1 3, .gap 1 4, .gap 2 3, .gap 2 4, .longer 1, .longer 2, .longer 3]
def famD : DD := .tuple (famR.map Rule.d)
def W_family : Wt := fun as P => as = [] ∧ P (.list (famR.map Rule.d))
theorem W_family_i {P : DD → Prop} : W_family [] P ↔ P (.list (famR.map Rule.d)) := ⟨fun ⟨_, q⟩ => q, fun q => ⟨rfl, q⟩⟩
instance (n : Int) : Decidable (N4 n) := inferInstanceAs (Decidable (1 ≤ n ∧ n ≤ 4))
instance : DecidablePred Rule.ok := fun r => by
  cases r <;> unfold Rule.ok <;> infer_instance
theorem fam_ok : ∀ r ∈ famR, r.ok := by decide
theorem Rule.sh (r : Rule) : Sh 1 r.d := by
  cases r <;> exact Sh.tup (by repeat (first | exact Sh.nil | refine Sh.cons (by first | exact Sh.int | exact Sh.str) ?_))
theorem rule_eqv (r s : Rule) : PyData.eqv r.d s.d = decide (r = s) := by
  by_cases e : r = s
  · subst e
    rw [decide_eq_true rfl]
    exact eqv_same r.sh
  · rw [decide_eq_false e]
    cases r <;> cases s <;> simp only [Rule.d, PyData.eqv, PyData.eqvAll, Bool.and_true, Bool.and_false, Bool.false_and] <;>
      first
        | (show (_ == _ && _) = false; rw [show ∀ a b : Str, (a == b) = decide (a = b) from fun a b => Bool.beq_eq_decide_eq a b, decide_eq_false (by decide +kernel)]; rfl)
        | (simp only [Rule.asked.injEq, Rule.clock.injEq, Rule.due.injEq, Rule.empty.injEq, Rule.gap.injEq, Rule.longer.injEq, not_and] at e; simp; first | exact e | (intro h; exact e h))
theorem rule_any (rs : List Rule) (r : Rule) : ((rs.map Rule.d).any fun z => PyData.eqv z r.d) = decide (r ∈ rs) := by
  induction rs with
  | nil => rfl
  | cons s rs ih =>
    rw [List.map_cons, List.any_cons, ih, rule_eqv]
    by_cases e : s = r
    · subst e; simp
    · rw [decide_eq_false e, Bool.false_or]
      have : (r ∈ s :: rs) ↔ r ∈ rs := by
        rw [List.mem_cons]
        exact ⟨fun h => h.resolve_left fun z => e z.symm, .inr⟩
      exact decide_eq_decide.mpr this.symm
theorem dInL_r {neg : Bool} {r : Rule} {rs : List Rule} {P : DD → Prop} : dInL neg r.d (.list (rs.map Rule.d)) P ↔ P (.bool (if neg then !decide (r ∈ rs) else decide (r ∈ rs))) := by
  unfold dInL
  constructor
  · rintro ⟨ds, e, _, _, q⟩
    cases e
    rw [rule_any] at q; exact q
  · intro q
    exact ⟨_, rfl, r.sh.ok, (Sh.list (Sh.map fun r _ => r.sh)).ok, by rw [rule_any]; exact q⟩
/-! order -/
open PySem.SeqAt PySem.W in
theorem rules_alike (r s : Rule) : alike r.d s.d = true := by
  cases r <;> cases s <;> rfl
section
variable {β : Type} {i : Nat} {τ : ATx} {α : AEx} {env : AE} {P : List DD → Prop}
theorem coll_typed (enc : β → DD) (b : β → Bool) (f : β → DD) : ∀ (bs : List β) (acc : List DD), (∀ x ∈ bs, ∀ Q : Bool → Prop, Q (b x) → τ (env.set i (.va (enc x))) Q) → (∀ x ∈ bs, b x = true → ∀ Q : DD → Prop, Q (f x) → α (env.set i (.va (enc x))) Q) → P (acc ++ (bs.filter b).map f) → aColl (tgN i) τ α env P (bs.map enc) acc
  | [], acc, _, _, h => by
    rw [List.filter_nil, List.map_nil, List.append_nil] at h
    exact h
  | x :: bs, acc, hb, hf, h => by
    refine hb x List.mem_cons_self _ ⟨fun z => hf x List.mem_cons_self z _ (coll_typed enc b f bs (acc ++ [f x]) (fun e he => hb e (List.mem_cons_of_mem _ he)) (fun e he => hf e (List.mem_cons_of_mem _ he)) ?_), fun z => coll_typed enc b f bs acc (fun e he => hb e (List.mem_cons_of_mem _ he)) (fun e he => hf e (List.mem_cons_of_mem _ he)) ?_⟩
    · rw [List.filter_cons, if_pos z, List.map_cons] at h
      rw [List.append_assoc]
      exact h
    · rw [List.filter_cons, if_neg (by rw [z]; decide)] at h
      exact h
theorem coll_mapT (enc : β → DD) (f : β → DD) : ∀ (bs : List β) (acc : List DD), (∀ x ∈ bs, ∀ Q : DD → Prop, Q (f x) → α (env.set i (.va (enc x))) Q) → P (acc ++ bs.map f) → aColl (tgN i) aYes α env P (bs.map enc) acc
  | [], acc, _, h => by
    rw [List.map_nil, List.append_nil] at h
    exact h
  | x :: bs, acc, hf, h => by
    refine ⟨fun _ => hf x List.mem_cons_self _ (coll_mapT enc f bs (acc ++ [f x]) (fun e he => hf e (List.mem_cons_of_mem _ he)) ?_), fun z => by cases z⟩
    rw [List.append_assoc]
    exact h
end
/-! sorted already -/
open PySem.SeqAt PySem.W in
theorem fam_sorted : (famR.map Rule.d).Pairwise (fun a b => dataLe false (fun d : DD => d) a b = true) := by decide +kernel
open PySem.SeqAt PySem.W in
theorem sorted_sub {b : Rule → Bool} {P : List DD → Prop} : dSortedO [.list ((famR.filter b).map Rule.d)] P ↔ P ((famR.filter b).map Rule.d) := by
  have hs : ((famR.filter b).map Rule.d).mergeSort (dataLe false fun d : DD => d) = (famR.filter b).map Rule.d :=
    List.mergeSort_of_pairwise (fam_sorted.sublist (List.filter_sublist.map _))
  constructor
  · rintro ⟨ds, e, _, _, _, _, q⟩
    cases e
    rw [hs] at q; exact q
  · intro q
    refine ⟨_, rfl, (sh_all (n := 1) (Sh.map fun r _ => r.sh)).1, ?_, .inl fun d hd => ?_, fun d hd => ?_, by rw [hs]; exact q⟩
    · intro d hd d' hd'
      obtain ⟨r, _, rfl⟩ := List.mem_map.mp hd
      obtain ⟨r', _, rfl⟩ := List.mem_map.mp hd'
      exact rules_alike r r'
    · obtain ⟨r, _, rfl⟩ := List.mem_map.mp hd
      cases r <;> exact ⟨_, _, rfl⟩
    · obtain ⟨r, _, rfl⟩ := List.mem_map.mp hd
      exact Nat.le_trans r.sh.2 (by decide)
/-- could_be -/
def isLight (d : DD) : Prop := ∃ l : Lt, (∀ r, l = .r r → r = 0 ∨ r = 1) ∧ d = l.d
def LsOk (ls : List Lt) : Prop := ls.length ≤ 40 ∧ ∀ l ∈ ls, ∀ r, l = .r r → r = 0 ∨ r = 1
def lsD (ls : List Lt) : DD := .list (ls.map Lt.d)
def W_ck_ls : Wt := fun as P => ∃ ls, as = [.va (lsD ls)] ∧ LsOk ls ∧ P .none
def W_are_ls : Wt := fun as P => ∃ ls, as = [.va (lsD ls)] ∧ (∀ l ∈ ls, ∀ r, l = .r r → r = 0 ∨ r = 1) ∧ ls.length ≤ 1000 ∧ P (.bool (decide (ls.length ≤ 40)))
theorem Lt.d_inj : ∀ {l m : Lt}, l.d = m.d → l = m := by
  intro l m e
  cases l <;> cases m <;> simp only [Lt.d] at e
  · injection e with e; rw [e]
  · cases e
  · cases e
  · rfl
theorem lts_inj : ∀ {ls ms : List Lt}, ls.map Lt.d = ms.map Lt.d → ls = ms
  | [], [], _ => rfl
  | [], _ :: _, e => by simp at e
  | _ :: _, [], e => by simp at e
  | l :: ls, m :: ms, e => by
    rw [List.map_cons, List.map_cons, List.cons.injEq] at e
    rw [Lt.d_inj e.1, lts_inj e.2]
theorem lsD_inj {ls ms : List Lt} (e : lsD ls = lsD ms) : ls = ms := by
  unfold lsD at e
  injection e with e
  exact lts_inj e
theorem W_ck_ls_i {ls : List Lt} {P : DD → Prop} (h : LsOk ls) : W_ck_ls [.va (lsD ls)] P ↔ P .none := ⟨fun ⟨_, _, _, q⟩ => q, fun q => ⟨ls, rfl, h, q⟩⟩
theorem W_are_ls_i {ls : List Lt} {P : DD → Prop} (h : ∀ l ∈ ls, ∀ r, l = .r r → r = 0 ∨ r = 1) (hl : ls.length ≤ 1000) : W_are_ls [.va (lsD ls)] P ↔ P (.bool (decide (ls.length ≤ 40))) := ⟨fun ⟨l, e, _, _, q⟩ => by
  simp only [List.cons.injEq, Sl.va.injEq, and_true] at e
  rw [lsD_inj e]; exact q, fun q => ⟨ls, rfl, h, hl, q⟩⟩
theorem lts_eqv : ∀ ls ms : List Lt, PyData.eqvAll (ls.map Lt.d) (ms.map Lt.d) = decide (ls = ms)
  | [], [] => rfl
  | [], _ :: _ => rfl
  | _ :: _, [] => rfl
  | l :: ls, m :: ms => by
    have e : PyData.eqv l.d m.d = decide (l = m) := by
      cases l <;> cases m
      · simp only [Lt.d, eqv_int, Lt.r.injEq]
      · simp only [Lt.d, eqv_in]; rfl
      · simp only [Lt.d, eqv_ni]; rfl
      · simp only [Lt.d, eqv_nn]; rfl
    rw [List.map_cons, List.map_cons, PyData.eqvAll, e, lts_eqv ls ms, ← Bool.decide_and]
    exact decide_eq_decide.mpr (by rw [List.cons.injEq])
theorem dEq_lts {ls ms : List Lt} {P : DD → Prop} : dEq (.list (ls.map Lt.d)) (.list (ms.map Lt.d)) P ↔ P (.bool (decide (ls = ms))) := by
  have e : PyData.eqv (.list (ls.map Lt.d)) (.list (ms.map Lt.d)) = decide (ls = ms) := lts_eqv ls ms
  unfold dEq
  rw [e]
  exact ⟨fun ⟨_, _, q⟩ => q, fun q => ⟨(sh_lts ls).ok, (sh_lts ms).ok, q⟩⟩
def couldR (room pause : Int) (cs : List Int) (ls : List Lt) : List Rule := famR.filter fun r => decide (lights room pause r cs = ls)
def W_could : Wt := fun as P => ∃ room pause cs ls, as = [.va (crD room pause), .va (coD cs), .va (lsD ls)] ∧ CrOk room pause ∧ CosOk cs ∧ LsOk ls ∧ P (.list ((couldR room pause cs ls).map Rule.d))
theorem W_could_i {room pause : Int} {cs : List Int} {ls : List Lt} {P : DD → Prop} (hc : CrOk room pause) (hk : CosOk cs) (hl : LsOk ls) : W_could [.va (crD room pause), .va (coD cs), .va (lsD ls)] P ↔ P (.list ((couldR room pause cs ls).map Rule.d)) := by
  constructor
  · rintro ⟨r, p, c, l, e, _, _, _, q⟩
    simp only [crD, List.cons.injEq, Sl.va.injEq, PyData.int.injEq, PyData.tuple.injEq, and_true] at e
    obtain ⟨⟨rfl, rfl⟩, e1, e2⟩ := e
    rw [coD_inj e1, lsD_inj e2]; exact q
  · intro q
    exact ⟨room, pause, cs, ls, rfl, hc, hk, hl, q⟩
theorem couldR_mem {room pause : Int} {cs : List Int} {ls : List Lt} {r : Rule} : r ∈ couldR room pause cs ls ↔ r ∈ famR ∧ lights room pause r cs = ls := by
  unfold couldR
  rw [List.mem_filter, decide_eq_true_eq]
theorem coD_take (cs : List Int) (i : Nat) : PyData.list ((cs.map PyData.int).take i) = coD (cs.take i) := by rw [coD, List.map_take]
theorem lsD_take (ls : List Lt) (i : Nat) : PyData.list ((ls.map Lt.d).take i) = lsD (ls.take i) := by rw [lsD, List.map_take]
theorem tick_l01 {room pause : Int} {rule : Rule} {s : Sta} {c : Int} (hr : s.road = 0 ∨ s.road = 1) : ∀ r, (tick room pause rule s c).light = .r r → r = 0 ∨ r = 1 := by
  intro r h
  rw [tick_B] at h
  have e : (tickB room pause (chg room rule s c) s c).light = if max 0 ((if chg room rule s c then pause + 1 else s.left) - 1) = 0 then Lt.r (if chg room rule s c then 1 - s.road else s.road) else .dark := rfl
  rw [e] at h
  generalize chg room rule s c = ch at h
  by_cases z : max 0 ((if ch then pause + 1 else s.left) - 1) = 0
  · rw [if_pos z] at h
    injection h with h
    subst h
    cases ch
    · exact hr
    · rcases hr with e | e <;> rw [e]
      · exact .inr rfl
      · exact .inl rfl
  · rw [if_neg z] at h
    cases h
theorem run_lights {room pause : Int} {rule : Rule} (hc : CrOk room pause) : ∀ (cs : List Int) (s : Sta), StaOk room s → (∀ c ∈ cs, ComOk c) → ∀ l ∈ (run room pause rule s cs).map (·.light), ∀ r, l = .r r → r = 0 ∨ r = 1
  | [], _, _, _, l, h => by cases h
  | c :: cs, s, hs, hk, l, h => by
    rcases List.mem_cons.mp h with rfl | h
    · exact tick_l01 hs.1
    · exact run_lights hc cs _ (tick_ok hc hs (hk c List.mem_cons_self)) (fun d hd => hk d (List.mem_cons_of_mem _ hd)) l h
theorem lights_ok {room pause : Int} {rule : Rule} {cs : List Int} (hc : CrOk room pause) (hk : CosOk cs) : LsOk (lights room pause rule cs) := ⟨by rw [lights_len]; exact hk.1, run_lights hc cs sta0 (sta0_ok hc.1.1) hk.2⟩
end Lr

/-! texts: what they mean -/
namespace Lr
open PySem PySem.Spec PyProof.Rows Ab L2 TL
def nbD : List (Str × DD) := [("asked", .int 1), ("clock", .int 2), ("due", .int 1), ("empty", .int 1), ("gap", .int 2), ("longer", .int 1)]
def ligT : List (Str × DD) := [("0", .int 0), ("1", .int 1), ("-", .none)]
def numT : List (Str × DD) := [("1", .int 1), ("2", .int 2), ("3", .int 3), ("4", .int 4)]
theorem look_nb (z : Str) : lookT nbD z = (nbGet z).map PyData.int := by
  have e : nbD = nbT.map fun p => (p.1, PyData.int p.2) := rfl
  unfold lookT nbGet
  rw [e, List.find?_map, Option.map_map, Option.map_map]
  have e2 : ((fun p : Str × DD => p.1 == z) ∘ fun p : Str × Int => (p.1, PyData.int p.2)) = fun p : Str × Int => decide (p.1 = z) := by
    funext p
    show (p.1 == z) = decide (p.1 = z)
    rw [Bool.eq_iff_iff]
    simp
  rw [e2]
  rfl
def W_is_rule3 : Wt := fun as P => ∃ d, as = [.va d] ∧ (∀ xs, d = .tuple xs → xs.length ≤ 900) ∧ P (.bool (isRule d))
theorem W_is_rule3_i {d : DD} {P : DD → Prop} (h : ∀ xs, d = .tuple xs → xs.length ≤ 900) : W_is_rule3 [.va d] P ↔ P (.bool (isRule d)) :=
  ⟨fun ⟨_, e, _, q⟩ => by cases e; exact q, fun q => ⟨_, rfl, h, q⟩⟩
theorem rule_len {r : Rule} : ∀ xs, r.d = .tuple xs → xs.length ≤ 900 := fun xs e => Nat.le_trans (ruleAsk_ok.1 xs e) (by decide)
/-! signs -/
def sgn (k : Str) : DD → Bool
  | .str z => decide (z.length ≤ 40) && z.cps.toList.all fun c => decide (c ∈ k.cps.toList)
  | _ => false
def Short (d : DD) : Prop := ∀ z, d = .str z → z.length ≤ 800
def isT : DD → Bool
  | .str _ => true
  | _ => false
def digs (z : Str) : List DD := z.cps.toList.map fun c : Nat => .int ((c : Int) - 48)
def ligs (z : Str) : List DD := z.cps.toList.map fun c => (lookT ligT (sg c)).getD .none
def spc : Str := " "
def told (z : Str) : DD := match Txt.split z spc with
  | [] => .none
  | w :: fs => .tuple (.str w :: fs.map fun f => (lookT numT f).getD .none)
theorem spl_ne : ∀ (S : List Nat) (k : Nat) (acc l : List Nat), spl S k acc l ≠ []
  | S, k, acc, [] => by rw [spl_nil]; exact List.cons_ne_nil _ _
  | S, 0, acc, c :: r => by
    show (if pre S (c :: r) = true then acc :: spl S (S.length - 1) [] r else spl S 0 (acc ++ [c]) r) ≠ []
    split
    · exact List.cons_ne_nil _ _
    · exact spl_ne S 0 _ r
  | S, k + 1, acc, _ :: r => spl_ne S k acc r
theorem spl_le : ∀ (S : List Nat) (k : Nat) (acc l : List Nat), (spl S k acc l).length ≤ l.length + 1
  | S, k, acc, [] => by rw [spl_nil]; exact Nat.le_refl 1
  | S, 0, acc, c :: r => by
    show (if pre S (c :: r) = true then acc :: spl S (S.length - 1) [] r else spl S 0 (acc ++ [c]) r).length ≤ r.length + 1 + 1
    split
    · exact Nat.succ_le_succ (spl_le S _ [] r)
    · exact Nat.le_succ_of_le (spl_le S 0 _ r)
  | S, k + 1, acc, _ :: r => Nat.le_succ_of_le (spl_le S k acc r)
theorem split_tl (z : Str) : (Txt.split z spc).map tl = spl (tl spc) 0 [] (tl z) := split_spl _ _ (by decide) (kind_ok (by decide +kernel))
theorem split_ne (z : Str) : ∃ w fs, Txt.split z spc = w :: fs ∧ fs.length ≤ z.length := by
  have h := split_tl z
  cases e : Txt.split z spc with
  | nil =>
    rw [e] at h
    exact absurd h.symm (spl_ne _ _ _ _)
  | cons w fs =>
    refine ⟨w, fs, rfl, ?_⟩
    rw [e] at h
    have h2 := congrArg List.length h
    rw [List.length_map, List.length_cons] at h2
    have h3 := spl_le (tl spc) 0 [] (tl z)
    rw [← h2, ← len_tl] at h3
    omega
theorem told_eq {z w : Str} {fs : List Str} (h : Txt.split z spc = w :: fs) : told z = .tuple (.str w :: fs.map fun f => (lookT numT f).getD .none) := by
  unfold told
  rw [h]
theorem told_len {z : Str} (h : z.length ≤ 800) : ∀ xs, told z = .tuple xs → xs.length ≤ 900 := fun xs e => by
  obtain ⟨w, fs, e2, hl⟩ := split_ne z
  rw [told_eq e2] at e
  cases e
  rw [List.length_cons, List.length_map]
  omega
/-! the texts of comings, lights, rules -/
def comS (cs : List Int) : Str := ⟨(cs.map fun c => 48 + c.toNat).toArray⟩
def sgL : Lt → Nat
  | .r i => 48 + i.toNat
  | .dark => 45
def ligS (ls : List Lt) : Str := ⟨(ls.map sgL).toArray⟩
theorem joinL_nil : ∀ ps : List (List Nat), joinL [] ps = ps.flatten
  | [] => rfl
  | [p] => by simp [joinL]
  | p :: q :: r => by
    show p ++ ([] ++ joinL [] (q :: r)) = _
    rw [joinL_nil (q :: r)]
    rfl
def emp : Str := ""
theorem join_signs {α : Type} (f : α → Str) (g : α → Nat) (xs : List α) (h : ∀ x ∈ xs, f x = sg (g x)) : Txt.join emp (xs.map f) = ⟨(xs.map g).toArray⟩ := by
  apply ext_tl
  rw [join_eq, tl_join, show tl emp = [] from rfl, joinL_nil, tl_mk, List.map_map]
  induction xs with
  | nil => rfl
  | cons x xs ih =>
    rw [List.map_cons, List.flatten_cons, List.map_cons, ih fun y hy => h y (List.mem_cons_of_mem _ hy)]
    show tl (f x) ++ _ = _
    rw [h x List.mem_cons_self]
    rfl
theorem str_com {c : Int} (h : ComOk c) : Str.ofString (toString c) = sg (48 + c.toNat) := by
  obtain ⟨h0, h1⟩ := h
  have : c = 0 ∨ c = 1 ∨ c = 2 ∨ c = 3 := by omega
  rcases this with rfl | rfl | rfl | rfl <;> rfl
theorem com_join {cs : List Int} (h : ∀ c ∈ cs, ComOk c) : Txt.join emp (cs.map fun c => Str.ofString (toString c)) = comS cs := join_signs _ _ _ fun c hc => str_com (h c hc)
def ltS : Lt → Str
  | .r i => Str.ofString (toString i)
  | .dark => "-"
theorem lig_join {ls : List Lt} (h : LsOk ls) : Txt.join emp (ls.map ltS) = ligS ls := join_signs _ _ _ fun l hl => by
  cases l with
  | dark => rfl
  | r i => rcases h.2 _ hl i rfl with rfl | rfl <;> rfl
theorem com_sgn {cs : List Int} (h : CosOk cs) : sgn "0123" (.str (comS cs)) = true := by
  show (decide ((comS cs).length ≤ 40) && (cs.map fun c => 48 + c.toNat).all fun c => decide (c ∈ (Str.ofString "0123").cps.toList)) = true
  rw [len_tl, comS, tl_mk, List.length_map, decide_eq_true h.1, Bool.true_and, List.all_map, List.all_eq_true]
  intro c hc
  obtain ⟨h0, h1⟩ := h.2 c hc
  have : c = 0 ∨ c = 1 ∨ c = 2 ∨ c = 3 := by omega
  rcases this with rfl | rfl | rfl | rfl <;> decide
theorem com_digs {cs : List Int} (h : CosOk cs) : digs (comS cs) = cs.map PyData.int := by
  show (cs.map fun c => 48 + c.toNat).map (fun c : Nat => PyData.int ((c : Int) - 48)) = _
  rw [List.map_map]
  refine List.map_congr_left fun c hc => ?_
  obtain ⟨h0, h1⟩ := h.2 c hc
  show PyData.int (((48 + c.toNat : Nat) : Int) - 48) = _
  congr 1
  omega
theorem lig_sgn {ls : List Lt} (h : LsOk ls) : sgn "01-" (.str (ligS ls)) = true := by
  show (decide ((ligS ls).length ≤ 40) && (ls.map sgL).all fun c => decide (c ∈ (Str.ofString "01-").cps.toList)) = true
  rw [len_tl, ligS, tl_mk, List.length_map, decide_eq_true h.1, Bool.true_and, List.all_map, List.all_eq_true]
  intro l hl
  cases l with
  | dark => decide
  | r i => rcases h.2 _ hl i rfl with rfl | rfl <;> decide
theorem lig_ligs {ls : List Lt} (h : LsOk ls) : ligs (ligS ls) = ls.map Lt.d := by
  show (ls.map sgL).map (fun c => (lookT ligT (sg c)).getD .none) = _
  rw [List.map_map]
  refine List.map_congr_left fun l hl => ?_
  cases l with
  | dark => rfl
  | r i => rcases h.2 _ hl i rfl with rfl | rfl <;> rfl
def ruleWs : Rule → List Str
  | .asked n => ["asked", Str.ofString (toString n)]
  | .clock a b => ["clock", Str.ofString (toString a), Str.ofString (toString b)]
  | .due n => ["due", Str.ofString (toString n)]
  | .empty n => ["empty", Str.ofString (toString n)]
  | .gap i m => ["gap", Str.ofString (toString i), Str.ofString (toString m)]
  | .longer n => ["longer", Str.ofString (toString n)]
def ruleS (r : Rule) : Str := Txt.join spc (ruleWs r)
theorem n4x {n : Int} (h : N4 n) : n = 1 ∨ n = 2 ∨ n = 3 ∨ n = 4 := by
  obtain ⟨a, b⟩ := h
  omega
theorem rule_fin {p : Rule → Bool} (h : ([1, 2, 3, 4].all fun n : Int => p (.asked n) && p (.due n) && p (.empty n) && p (.longer n) && [1, 2, 3, 4].all fun m : Int => p (.clock n m) && p (.gap n m)) = true) {r : Rule} (hr : r.ok) : p r = true := by
  simp only [List.all_cons, List.all_nil, Bool.and_true, Bool.and_eq_true] at h
  cases r with
  | asked n => rcases n4x hr with rfl | rfl | rfl | rfl <;> simp_all
  | due n => rcases n4x hr with rfl | rfl | rfl | rfl <;> simp_all
  | empty n => rcases n4x hr with rfl | rfl | rfl | rfl <;> simp_all
  | longer n => rcases n4x hr with rfl | rfl | rfl | rfl <;> simp_all
  | clock a b => rcases n4x hr.1 with rfl | rfl | rfl | rfl <;> rcases n4x hr.2 with rfl | rfl | rfl | rfl <;> simp_all
  | gap a b => rcases n4x hr.1 with rfl | rfl | rfl | rfl <;> rcases n4x hr.2 with rfl | rfl | rfl | rfl <;> simp_all
theorem rule_s {r : Rule} (hr : r.ok) : (decide ((ruleS r).length ≤ 20) && PyData.strOk (ruleS r)) = true := rule_fin (p := fun r => decide ((ruleS r).length ≤ 20) && PyData.strOk (ruleS r)) (by decide +kernel) hr
def tolds : DD → Rule → Bool
  | .tuple (.str w :: xs), r => match r.d with
    | .tuple (.str v :: ys) => decide (w = v) && decide (xs.map (fun d => match d with | .int i => i | _ => 0) = ys.map (fun d => match d with | .int i => i | _ => 0)) && xs.all (fun d => match d with | .int _ => true | _ => false)
    | _ => false
  | _, _ => false
theorem rule_told {r : Rule} (hr : r.ok) : told (ruleS r) = r.d := by
  have hs : Txt.split (ruleS r) spc = ruleWs r := split_join (s := 32) (S := []) rfl (by decide +kernel) (by cases r <;> simp [ruleWs]) fun p hp => by
    have := rule_fin (p := fun r => (ruleWs r).all fun p => decide (32 ∉ tl p)) (by decide +kernel) hr
    exact of_decide_eq_true (List.all_eq_true.mp this p hp)
  unfold told
  rw [hs]
  cases r with
  | asked n => rcases n4x hr with rfl | rfl | rfl | rfl <;> rfl
  | due n => rcases n4x hr with rfl | rfl | rfl | rfl <;> rfl
  | empty n => rcases n4x hr with rfl | rfl | rfl | rfl <;> rfl
  | longer n => rcases n4x hr with rfl | rfl | rfl | rfl <;> rfl
  | clock a b => rcases n4x hr.1 with rfl | rfl | rfl | rfl <;> rcases n4x hr.2 with rfl | rfl | rfl | rfl <;> rfl
  | gap a b => rcases n4x hr.1 with rfl | rfl | rfl | rfl <;> rcases n4x hr.2 with rfl | rfl | rfl | rfl <;> rfl
/-! promises -/
def W_cstr : Wt := fun as P => ∃ z, as = [.va (.str z)] ∧ P .none
def W_csig : Wt := fun as P => ∃ z k, as = [.va (.str z), .va (.str k)] ∧ sgn k (.str z) = true ∧ P .none
def W_pcom : Wt := fun as P => ∃ z, as = [.va (.str z)] ∧ sgn "0123" (.str z) = true ∧ P (.list (digs z))
def W_plig : Wt := fun as P => ∃ z, as = [.va (.str z)] ∧ sgn "01-" (.str z) = true ∧ P (.list (ligs z))
def W_prule : Wt := fun as P => ∃ z, as = [.va (.str z)] ∧ z.length ≤ 800 ∧ isRule (told z) = true ∧ P (told z)
def W_fcom : Wt := fun as P => ∃ cs, as = [.va (coD cs)] ∧ CosOk cs ∧ P (.str (comS cs))
def W_flig : Wt := fun as P => ∃ ls, as = [.va (lsD ls)] ∧ LsOk ls ∧ P (.str (ligS ls))
def W_frule : Wt := fun as P => ∃ r, as = [.va (Rule.d r)] ∧ r.ok ∧ P (.str (ruleS r))
def WX_cstr (C : Addr) : WtX := fun as P PE => ∃ d, as = [.va d] ∧ (isT d = true → P .none) ∧ (isT d = false → PE C)
def WX_csig (C : Addr) : WtX := fun as P PE => ∃ d k, as = [.va d, .va (.str k)] ∧ Short d ∧ (sgn k d = true → P .none) ∧ (sgn k d = false → PE C)
def WX_psig (k : Str) (C : Addr) : WtX := fun as _ PE => ∃ d, as = [.va d] ∧ Short d ∧ sgn k d = false ∧ PE C
def badT : DD → Bool
  | .str z => !isRule (told z)
  | _ => true
def WX_prule (C : Addr) : WtX := fun as _ PE => ∃ d, as = [.va d] ∧ Short d ∧ badT d = true ∧ PE C
end Lr
namespace Lr
open PySem PySem.Spec PyProof.Rows Ab L2
structure OkP (K : PySem.W.Frag) (CL CP C : Addr) : Prop where
  exc : ExcC K C
  exm : PySem.W.exmOne K (.ref C) (.ref CL) = some true
  is : PySem.W.kitOne K (.ref C) (.ref CP) = some true
def readD (w : Nat) (z : Str) : DD := match w with
  | 0 => if sgn "0123" (.str z) = true then .list (digs z) else .none
  | 1 => if sgn "01-" (.str z) = true then .list (ligs z) else .none
  | _ => if isRule (told z) = true then told z else .none
def W_read (K : PySem.W.Frag) (CL CP : Addr) : Wt := fun as P => ∃ (z : Str) (w : Nat), as = [.va (.str z), .va (.int (w : Int))] ∧ w ≤ 2 ∧ z.length ≤ 800 ∧ OkP K CL CP CP ∧ P (readD w z)
def W_told : Wt := fun as P => ∃ z, as = [.va (.str z)] ∧ z.length ≤ 800 ∧ P (readD 2 z)
end Lr
namespace Lr
open PySem PySem.Spec PyProof.Rows Ab L2
theorem ex_str {z : Str} {P : Str → Prop} : (∃ y, PyData.str z = PyData.str y ∧ P y) ↔ P z := ⟨fun ⟨_, e, q⟩ => by cases e; exact q, fun q => ⟨_, rfl, q⟩⟩
theorem dLenS_s {z : Str} {P : DD → Prop} : dLenS [.str z] P ↔ z.length ≤ lineD ∧ P (.int z.length) := ⟨fun ⟨_, e, q⟩ => by cases e; exact q, fun q => ⟨_, rfl, q⟩⟩
theorem dInS_s {c : Nat} {z : Str} {P : DD → Prop} : dInS (.str (sg c)) (.str z) P ↔ P (.bool (decide (c ∈ z.cps.toList))) := ⟨fun ⟨_, _, e1, e2, q⟩ => by cases e1; cases e2; exact q, fun q => ⟨_, _, rfl, rfl, q⟩⟩
theorem dCatS_s {a b : Str} {P : DD → Prop} : dCatS (.str a) (.str b) P ↔ a.length + b.length ≤ lineD ∧ P (.str (a ++ b)) := ⟨fun ⟨_, _, e1, e2, q⟩ => by cases e1; cases e2; exact q, fun q => ⟨_, _, rfl, rfl, q⟩⟩
theorem W_cstr_i {z : Str} {P : DD → Prop} : W_cstr [.va (.str z)] P ↔ P .none := ⟨fun ⟨_, _, q⟩ => q, fun q => ⟨_, rfl, q⟩⟩
theorem W_csig_i {z k : Str} {P : DD → Prop} (h : sgn k (.str z) = true) : W_csig [.va (.str z), .va (.str k)] P ↔ P .none := ⟨fun ⟨_, _, _, _, q⟩ => q, fun q => ⟨_, _, rfl, h, q⟩⟩
theorem sgn_s {k z : Str} : sgn k (.str z) = (decide (z.length ≤ 40) && z.cps.toList.all fun c => decide (c ∈ k.cps.toList)) := rfl
/-- the items of a comprehension over the signs of a text -/
theorem coll_sgs {i : Nat} {α : AEx} {env : AE} {P : List DD → Prop} (f : Nat → DD) : ∀ (l : List Nat) (acc : List DD), (∀ c ∈ l, ∀ N : DD → Prop, N (f c) → α (env.set i (.va (.str (sg c)))) N) → P (acc ++ l.map f) → aColl (tgN i) aYes α env P (l.map fun c => .str (sg c)) acc
  | [], acc, _, h => by
    rw [List.map_nil, List.append_nil] at h
    exact h
  | c :: l, acc, hf, h => by
    refine ⟨fun _ => hf c List.mem_cons_self _ (coll_sgs f l (acc ++ [f c]) (fun e he => hf e (List.mem_cons_of_mem _ he)) ?_), fun z => by cases z⟩
    rw [List.append_assoc]
    exact h
theorem sgs_len (z : Str) : (sgs z).length = z.length := by
  unfold sgs
  rw [List.length_map]
  rfl
theorem all_dec {l : List Nat} {p : Nat → Bool} {P : DD → Prop} (q : P (.bool (l.all p))) : dAll [.list (l.map fun c => .bool (p c))] P := ⟨l.map p, by rw [List.map_map]; rfl, by rw [List.all_map]; exact q⟩
theorem sg_int {c : Nat} (h : c ∈ (Str.ofString "0123").cps.toList) : PySem.intText? (sg c) = some ((c : Int) - 48) := by
  have h : c ∈ [48, 49, 50, 51] := h
  simp only [List.mem_cons, List.not_mem_nil, or_false] at h
  rcases h with rfl | rfl | rfl | rfl <;> decide +kernel
theorem sg_int4 {c : Nat} (h : c ∈ (Str.ofString "1234").cps.toList) : PySem.intText? (sg c) = some ((c : Int) - 48) := by
  have h : c ∈ [49, 50, 51, 52] := h
  simp only [List.mem_cons, List.not_mem_nil, or_false] at h
  rcases h with rfl | rfl | rfl | rfl <;> decide +kernel
theorem sg_lig {c : Nat} (h : c ∈ (Str.ofString "01-").cps.toList) : ∃ d, lookT ligT (sg c) = some d := by
  have h : c ∈ [48, 49, 45] := h
  simp only [List.mem_cons, List.not_mem_nil, or_false] at h
  rcases h with rfl | rfl | rfl <;> exact ⟨_, rfl⟩
theorem sgn_mem {k z : Str} (h : sgn k (.str z) = true) : z.length ≤ 40 ∧ ∀ c ∈ z.cps.toList, c ∈ k.cps.toList := by
  rw [sgn_s, Bool.and_eq_true, decide_eq_true_eq, List.all_eq_true] at h
  exact ⟨h.1, fun c hc => of_decide_eq_true (h.2 c hc)⟩
end Lr
namespace Lr
open PySem PySem.Spec PyProof.Rows Ab L2
theorem coll_strs {i : Nat} {α : AEx} {env : AE} {P : List DD → Prop} (f : Str → DD) : ∀ (l : List Str) (acc : List DD), (∀ c ∈ l, ∀ N : DD → Prop, N (f c) → α (env.set i (.va (.str c))) N) → P (acc ++ l.map f) → aColl (tgN i) aYes α env P (l.map .str) acc
  | [], acc, _, h => by
    rw [List.map_nil, List.append_nil] at h
    exact h
  | c :: l, acc, hf, h => by
    refine ⟨fun _ => hf c List.mem_cons_self _ (coll_strs f l (acc ++ [f c]) (fun e he => hf e (List.mem_cons_of_mem _ he)) ?_), fun z => by cases z⟩
    rw [List.append_assoc]
    exact h
end Lr
namespace Lr
open PySem PySem.Spec PyProof.Rows Ab L2 TL
theorem coll_enc {β : Type} {i : Nat} {α : AEx} {env : AE} {P : List DD → Prop} (g f : β → DD) : ∀ (l : List β) (acc : List DD), (∀ c ∈ l, ∀ N : DD → Prop, N (f c) → α (env.set i (.va (g c))) N) → P (acc ++ l.map f) → aColl (tgN i) aYes α env P (l.map g) acc
  | [], acc, _, h => by
    rw [List.map_nil, List.append_nil] at h
    exact h
  | c :: l, acc, hf, h => by
    refine ⟨fun _ => hf c List.mem_cons_self _ (coll_enc g f l (acc ++ [f c]) (fun e he => hf e (List.mem_cons_of_mem _ he)) ?_), fun z => by cases z⟩
    rw [List.append_assoc]
    exact h
theorem sum_leS {ys : List Str} {m : Nat} (h : ∀ y ∈ ys, y.length ≤ m) : (ys.map (·.length)).sum ≤ ys.length * m := by
  induction ys with
  | nil => exact Nat.zero_le _
  | cons y ys ih =>
    rw [List.map_cons, List.sum_cons, List.length_cons, Nat.succ_mul]
    have := h y List.mem_cons_self
    have := ih fun z hz => h z (List.mem_cons_of_mem _ hz)
    omega
theorem signs_fit {α : Type} {f : α → Str} {g : α → Nat} {xs : List α} (h : ∀ x ∈ xs, f x = sg (g x)) (hl : xs.length ≤ 40) : ((xs.map f).map (·.length)).sum + (xs.map f).length * (Str.ofString "").length ≤ 1000000 := by
  have h1 := sum_leS (ys := xs.map f) (m := 1) fun y hy => by
    obtain ⟨x, hx, rfl⟩ := List.mem_map.mp hy
    rw [h x hx]
    exact Nat.le_refl 1
  rw [show (Str.ofString "").length = 0 from rfl]
  rw [List.length_map] at h1 ⊢
  omega
theorem lt_sg {ls : List Lt} (h : LsOk ls) : ∀ l ∈ ls, ltS l = sg (sgL l) := fun l hl => by
  cases l with
  | dark => rfl
  | r i => rcases h.2 _ hl i rfl with rfl | rfl <;> rfl
def ruleI : Rule → List DD
  | .asked n => [.str "asked", .int n]
  | .clock a b => [.str "clock", .int a, .int b]
  | .due n => [.str "due", .int n]
  | .empty n => [.str "empty", .int n]
  | .gap i m => [.str "gap", .int i, .int m]
  | .longer n => [.str "longer", .int n]
theorem ruleI_d (r : Rule) : r.d = .tuple (ruleI r) := by cases r <;> rfl
def txD : DD → Str
  | .int i => Str.ofString (toString i)
  | .str z => z
  | _ => emp
theorem ruleI_w (r : Rule) : (ruleI r).map txD = ruleWs r := by cases r <;> rfl
theorem ruleI_ok {r : Rule} (h : r.ok) : ∀ d ∈ ruleI r, (∃ i : Int, d = .int i ∧ i.natAbs ≤ 1000) ∨ ∃ z, d = .str z := by
  have n : ∀ {i : Int}, N4 i → i.natAbs ≤ 1000 := fun {i} h => by
    obtain ⟨a, b⟩ := h
    omega
  intro d hd
  cases r <;> simp only [ruleI, List.mem_cons, List.not_mem_nil, or_false] at hd
  case asked => rcases hd with rfl | rfl; exact .inr ⟨_, rfl⟩; exact .inl ⟨_, rfl, n h⟩
  case due => rcases hd with rfl | rfl; exact .inr ⟨_, rfl⟩; exact .inl ⟨_, rfl, n h⟩
  case empty => rcases hd with rfl | rfl; exact .inr ⟨_, rfl⟩; exact .inl ⟨_, rfl, n h⟩
  case longer => rcases hd with rfl | rfl; exact .inr ⟨_, rfl⟩; exact .inl ⟨_, rfl, n h⟩
  case clock => rcases hd with rfl | rfl | rfl; exact .inr ⟨_, rfl⟩; exact .inl ⟨_, rfl, n h.1⟩; exact .inl ⟨_, rfl, n h.2⟩
  case gap => rcases hd with rfl | rfl | rfl; exact .inr ⟨_, rfl⟩; exact .inl ⟨_, rfl, n h.1⟩; exact .inl ⟨_, rfl, n h.2⟩
theorem rule_fit {r : Rule} (h : r.ok) : ((ruleWs r).map (·.length)).sum + (ruleWs r).length * (Str.ofString " ").length ≤ 1000000 := of_decide_eq_true (rule_fin (p := fun r => decide (((ruleWs r).map (·.length)).sum + (ruleWs r).length * (Str.ofString " ").length ≤ 1000000)) (by decide +kernel) h)
theorem dStr_d {d : DD} {P : DD → Prop} (h : (∃ i : Int, d = .int i ∧ i.natAbs ≤ 1000) ∨ ∃ z, d = .str z) (p : P (.str (txD d))) : dStrA [d] P := by
  rcases h with ⟨i, rfl, hi⟩ | ⟨z, rfl⟩
  · exact dStrA_i hi p
  · exact dStrA_s p
end Lr
namespace Lr
open PySem PySem.Spec PyProof.Rows Ab L2
theorem isT_cases (d : DD) : (∃ z, d = .str z) ∨ (isT d = false ∧ isiD "str" d = false ∧ (∀ k, sgn k d = false) ∧ badT d = true) := by
  cases d with
  | str z => exact .inl ⟨z, rfl⟩
  | _ => exact .inr ⟨rfl, rfl, fun _ => rfl, rfl⟩
theorem xstr {C : Addr} {d : DD} {P : DD → Prop} {PE : Addr → Prop} (h : (isT d = true → P .none) ∧ (isT d = false → PE C)) : WX_cstr C [.va d] P PE := ⟨d, rfl, h.1, h.2⟩
theorem xsig {C : Addr} {k : Str} {d : DD} {P : DD → Prop} {PE : Addr → Prop} (hs : Short d) (h : sgn k d = false) (q : PE C) : WX_csig C [.va d, .va (.str k)] P PE := ⟨d, k, rfl, hs, fun z => (by rw [h] at z; cases z), fun _ => q⟩
end Lr
namespace Lr
open PySem PySem.Spec PyProof.Rows Ab L2
theorem look_sg (c : Nat) : (lookT numT (sg c)).isSome = decide (c ∈ (Str.ofString "1234").cps.toList) := by
  show _ = decide (c ∈ [49, 50, 51, 52])
  by_cases h : c ∈ [49, 50, 51, 52]
  · rw [decide_eq_true h]
    simp only [List.mem_cons, List.not_mem_nil, or_false] at h
    rcases h with rfl | rfl | rfl | rfl <;> rfl
  · rw [decide_eq_false h]
    cases e : lookT numT (sg c) with
    | none => rfl
    | some d =>
      have := lookT_some e
      simp only [numT, List.mem_cons, Prod.mk.injEq, List.not_mem_nil, or_false] at this
      exfalso
      apply h
      rcases this with ⟨e, _⟩ | ⟨e, _⟩ | ⟨e, _⟩ | ⟨e, _⟩ <;>
      · have e := congrArg (fun z : Str => z.cps.toList) e
        have e : [c] = [_] := e
        cases e
        decide
theorem look_val {c : Nat} (h : c ∈ (Str.ofString "1234").cps.toList) : (lookT numT (sg c)).getD .none = .int ((c : Int) - 48) := by
  have h : c ∈ [49, 50, 51, 52] := h
  simp only [List.mem_cons, List.not_mem_nil, or_false] at h
  rcases h with rfl | rfl | rfl | rfl <;> rfl
theorem one_sign {f : Str} (h : f.length = 1) : ∃ c, f = sg c := by
  obtain ⟨⟨l⟩⟩ := f
  match l, h with
  | [c], _ => exact ⟨c, rfl⟩
theorem look_len {f : Str} (h : (lookT numT f).isSome = true) : ∃ c, f = sg c ∧ c ∈ (Str.ofString "1234").cps.toList := by
  cases e : lookT numT f with
  | none => rw [e] at h; cases h
  | some d =>
    have := lookT_some e
    simp only [numT, List.mem_cons, Prod.mk.injEq, List.not_mem_nil, or_false] at this
    rcases this with ⟨e, _⟩ | ⟨e, _⟩ | ⟨e, _⟩ | ⟨e, _⟩
    · exact ⟨49, e, by decide⟩
    · exact ⟨50, e, by decide⟩
    · exact ⟨51, e, by decide⟩
    · exact ⟨52, e, by decide⟩
def okW (f : Str) : Bool := (lookT numT f).isSome
theorem okW_and {f : Str} {N : DD → Prop} (r : N (.bool (okW f))) : f.length ≤ lineD → (aAndV (fun _ P => f.length ≤ lineD ∧ P (.bool (decide ((f.length : Int) = 1)))) (fun _ P => dInS (.str f) (.str (Str.ofString "1234")) P)) ([] : AE) N := fun hl => by
  refine ⟨hl, _, rfl, fun h => ?_, fun h => ?_⟩
  · have h : f.length = 1 := by have := of_decide_eq_true h; omega
    obtain ⟨c, rfl⟩ := one_sign h
    show dInS (.str (sg c)) (.str (Str.ofString "1234")) N
    rw [dInS_s, ← look_sg]
    exact r
  · have h : ¬ f.length = 1 := fun z => by rw [decide_eq_true (by rw [z]; rfl)] at h; cases h
    have e : okW f = false := by
      cases e : okW f with
      | false => rfl
      | true =>
        obtain ⟨c, rfl, _⟩ := look_len e
        exact absurd rfl h
    rw [e] at r
    exact r
theorem bad_rule {z w : Str} {fs : List Str} (e : Txt.split z spc = w :: fs) (h : fs.all okW = false) : isRule (told z) = false := by
  rw [told_eq e]
  simp only [isRule]
  cases nbGet w with
  | none => rfl
  | some n =>
    have : (fs.map fun f => (lookT numT f).getD .none).all (isNum 1 4) = false := by
      rw [List.all_map, ← Bool.not_eq_true]
      intro z1
      rw [← Bool.not_eq_true] at h
      apply h
      rw [List.all_eq_true] at z1 ⊢
      intro f hf
      have := z1 f hf
      show (lookT numT f).isSome = true
      cases e : lookT numT f with
      | some d => rfl
      | none =>
        simp only [Function.comp, e] at this
        cases this
    show (decide _ && _) = false
    rw [this, Bool.and_false]
theorem split_len (z : Str) : ∀ f ∈ Txt.split z spc, f.length ≤ z.length := fun f hf => by
  have h := split_tl z
  have : ∀ (S : List Nat) (k : Nat) (acc l : List Nat), ∀ p ∈ TL.spl S k acc l, p.length ≤ acc.length + l.length := by
    intro S k acc l
    induction l generalizing k acc with
    | nil =>
      intro p hp
      rw [TL.spl_nil] at hp
      rw [List.mem_singleton.mp hp]
      exact Nat.le_add_right _ _
    | cons c r ih =>
      intro p hp
      cases k with
      | succ k =>
        have := ih k acc p hp
        rw [List.length_cons]; omega
      | zero =>
        have hp : p ∈ (if TL.pre S (c :: r) = true then acc :: TL.spl S (S.length - 1) [] r else TL.spl S 0 (acc ++ [c]) r) := hp
        split at hp
        · rcases List.mem_cons.mp hp with rfl | hp
          · exact Nat.le_add_right _ _
          · have := ih _ _ p hp
            rw [List.length_nil] at this
            rw [List.length_cons]; omega
        · have := ih _ _ p hp
          rw [List.length_append, List.length_cons, List.length_nil] at this
          rw [List.length_cons]; omega
  have hm : TL.tl f ∈ TL.spl (TL.tl spc) 0 [] (TL.tl z) := by
    rw [← h]
    exact List.mem_map_of_mem hf
  have := this _ _ _ _ _ hm
  rw [List.length_nil] at this
  rw [TL.len_tl, TL.len_tl z]
  omega
end Lr
namespace Lr
open PySem Ab L2
theorem at0' {x : DD} {xs : List DD} : L2.atI (x :: xs) 0 = some x := at0
end Lr
namespace Lr
open PySem PySem.Spec PyProof.Rows Ab L2 TL
theorem coll_lts {i : Nat} {α : AEx} {env : AE} {P : List DD → Prop} {n : Int} (hn : n ≤ 40) (step : ∀ d : DD, ∀ N : DD → Prop, (∀ l : Lt, (l = .r 0 ∨ l = .r 1 ∨ l = .dark) → N l.d) → α (env.set i (.va d)) N) (h : ∀ ls, LsOk ls → P (ls.map Lt.d)) : aColl (tgN i) aYes α env P ((List.range n.toNat).map fun (i : Nat) => PyData.int (i : Int)) [] := by
  refine coll_some (fun _ y => ∃ l : Lt, (l = .r 0 ∨ l = .r 1 ∨ l = .dark) ∧ y = l.d) _ [] (fun d hd N r => step d N fun l hl => r _ ⟨l, hl, rfl⟩) fun ys hp => ?_
  rw [List.nil_append]
  have : ∀ (ds ys : List DD), Paired (fun _ y => ∃ l : Lt, (l = .r 0 ∨ l = .r 1 ∨ l = .dark) ∧ y = l.d) ds ys → ∃ ls : List Lt, ys = ls.map Lt.d ∧ ls.length = ds.length ∧ ∀ l ∈ ls, l = .r 0 ∨ l = .r 1 ∨ l = .dark := by
    intro ds ys hp
    induction hp with
    | nil => exact ⟨[], rfl, rfl, fun l h => by cases h⟩
    | cons h _ ih =>
      obtain ⟨l, hl, rfl⟩ := h
      obtain ⟨ls, rfl, e, hs⟩ := ih
      exact ⟨l :: ls, rfl, by rw [List.length_cons, List.length_cons, e], fun m hm => (List.mem_cons.mp hm).elim (fun z => z ▸ hl) (hs m)⟩
  obtain ⟨ls, rfl, e, hs⟩ := this _ _ hp
  refine h ls ⟨?_, fun l hl r e => ?_⟩
  · rw [e, List.length_map, List.length_range]; omega
  · subst e
    rcases hs _ hl with e | e | e <;> cases e
    · exact .inl rfl
    · exact .inr rfl
theorem rule_split {r : Rule} (h : r.ok) : ∃ w ns, r.d = .tuple (.str w :: ns) ∧ ruleWs r = w :: ns.map txD ∧ ns.length ≤ 2 ∧ ∀ d ∈ ns, ∃ i : Int, d = .int i ∧ i.natAbs ≤ 1000 := by
  have n : ∀ {i : Int}, N4 i → i.natAbs ≤ 1000 := fun {i} h => by
    obtain ⟨a, b⟩ := h
    omega
  cases r
  case asked => exact ⟨_, _, rfl, rfl, by simp, fun d hd => by rw [List.mem_singleton.mp hd]; exact ⟨_, rfl, n h⟩⟩
  case due => exact ⟨_, _, rfl, rfl, by simp, fun d hd => by rw [List.mem_singleton.mp hd]; exact ⟨_, rfl, n h⟩⟩
  case empty => exact ⟨_, _, rfl, rfl, by simp, fun d hd => by rw [List.mem_singleton.mp hd]; exact ⟨_, rfl, n h⟩⟩
  case longer => exact ⟨_, _, rfl, rfl, by simp, fun d hd => by rw [List.mem_singleton.mp hd]; exact ⟨_, rfl, n h⟩⟩
  case clock => exact ⟨_, _, rfl, rfl, by simp, fun d hd => by
      simp only [List.mem_cons, List.not_mem_nil, or_false] at hd
      rcases hd with rfl | rfl
      · exact ⟨_, rfl, n h.1⟩
      · exact ⟨_, rfl, n h.2⟩⟩
  case gap => exact ⟨_, _, rfl, rfl, by simp, fun d hd => by
      simp only [List.mem_cons, List.not_mem_nil, or_false] at hd
      rcases hd with rfl | rfl
      · exact ⟨_, rfl, n h.1⟩
      · exact ⟨_, rfl, n h.2⟩⟩
theorem ok_signs {α : Type} {g : α → Nat} {xs : List α} (h : ∀ x ∈ xs, g x < 1000) : PyData.strOk ⟨(xs.map g).toArray⟩ = true := by
  show (xs.map g).toArray.all (fun c => decide (c < 1114112)) = true
  rw [← Array.all_toList]
  show (xs.map g).all (fun c => decide (c < 1114112)) = true
  rw [List.all_map, List.all_eq_true]
  intro x hx
  have := h x hx
  exact decide_eq_true (by omega)
theorem ok_com {cs : List Int} (h : ∀ c ∈ cs, ComOk c) : PyData.strOk (comS cs) = true := ok_signs fun c hc => by
  obtain ⟨h0, h1⟩ := h c hc
  show 48 + c.toNat < 1000
  omega
theorem ok_lig {ls : List Lt} (h : LsOk ls) : PyData.strOk (ligS ls) = true := ok_signs fun l hl => by
  cases l with
  | dark => show 45 < 1000; decide
  | r i =>
    have := h.2 _ hl i rfl
    show 48 + i.toNat < 1000
    rcases this with rfl | rfl <;> decide
theorem rule_l {r : Rule} (h : r.ok) : (ruleS r).length ≤ 20 := by
  have := rule_s h
  rw [Bool.and_eq_true, decide_eq_true_eq] at this
  exact this.1
theorem rule_so {r : Rule} (h : r.ok) : PyData.strOk (ruleS r) = true := by
  have := rule_s h
  rw [Bool.and_eq_true] at this
  exact this.2
theorem com_l {cs : List Int} (h : CosOk cs) : (comS cs).length ≤ 40 := by
  rw [len_tl, comS, tl_mk, List.length_map]
  exact h.1
theorem lig_l {ls : List Lt} (h : LsOk ls) : (ligS ls).length ≤ 40 := by
  rw [len_tl, ligS, tl_mk, List.length_map]
  exact h.1
theorem app_l (a b : Str) : (a ++ b).length = a.length + b.length := by
  rw [len_tl, len_tl a, len_tl b, tl_append, List.length_append]
end Lr
namespace Lr
open PySem PySem.Spec PyProof.Rows Ab L2 TL
theorem look_leaf {tb : List (Str × DD)} (h : tb.all (fun p => match p.2 with | .int _ => true | .none => true | _ => false) = true) (f : Str) {n : Nat} : Sh n ((lookT tb f).getD .none) := by
  cases e : lookT tb f with
  | none => exact Sh.non
  | some d =>
    have := List.all_eq_true.mp h _ (lookT_some e)
    cases d with
    | int i => exact Sh.int
    | none => exact Sh.non
    | _ => cases this
theorem nb_so {w : Str} {n : Int} (h : nbGet w = some n) : PyData.strOk w = true := by
  unfold nbGet at h
  cases e : nbT.find? (fun p => decide (p.1 = w)) with
  | none => rw [e] at h; cases h
  | some p =>
    have h1 := List.find?_some e
    have h2 := List.mem_of_find?_eq_some e
    have h3 : p.1 = w := of_decide_eq_true h1
    subst h3
    have : nbT.all (fun p => PyData.strOk p.1) = true := by decide +kernel
    exact List.all_eq_true.mp this p h2
theorem sh_read (w : Nat) (z : Str) : Sh 2 (readD w z) := by
  match w with
  | 0 =>
    show Sh 2 (if _ then _ else _)
    split
    · exact Sh.list (Sh.map fun _ _ => Sh.int)
    · exact Sh.non
  | 1 =>
    show Sh 2 (if _ then _ else _)
    split
    · exact Sh.list (Sh.map fun c _ => look_leaf (by decide) _)
    · exact Sh.non
  | w + 2 =>
    show Sh 2 (if _ then _ else _)
    split
    · rename_i h
      obtain ⟨w, fs, e, _⟩ := split_ne z
      rw [told_eq e] at h ⊢
      refine Sh.tup (Sh.cons (Sh.str ?_) (Sh.map fun f _ => look_leaf (by decide) _))
      simp only [isRule] at h
      cases e : nbGet w with
      | none => rw [e] at h; cases h
      | some n => exact nb_so e
    · exact Sh.non
theorem cut_l (z : Str) (lo hi : Option Int) : (cutS z lo hi).length ≤ z.length := cutS_length z lo hi
theorem good_eq {k z : Str} {N : DD → Prop} (q : N (.bool (sgn k (.str z)))) : ∃ b, PyData.bool (decide ((z.length : Int) < 41)) = .bool b ∧ (b = true → N (.bool (z.cps.toList.all fun c => decide (c ∈ k.cps.toList)))) ∧ (b = false → N (.bool false)) := by
  rw [sgn_s] at q
  refine ⟨_, rfl, fun h => ?_, fun h => ?_⟩
  · have h := of_decide_eq_true h
    rw [decide_eq_true (by omega), Bool.true_and] at q
    exact q
  · have h := of_decide_eq_false h
    rw [decide_eq_false (by omega), Bool.false_and] at q
    exact q
theorem lig_item {c : Nat} (h : c ∈ (Str.ofString "01-").cps.toList) {N : DD → Prop} (r : N ((lookT ligT (sg c)).getD .none)) : dEq (.str (sg c)) (.str (Str.ofString "-")) fun x => ∃ k, x = .bool k ∧ (k = true → N .none) ∧ (k = false → dIntS [.str (sg c)] N) := by
  have h : c ∈ [48, 49, 45] := h
  simp only [List.mem_cons, List.not_mem_nil, or_false] at h
  rcases h with rfl | rfl | rfl
  · exact ⟨by decide +kernel, by decide +kernel, _, rfl, fun z => absurd z (by decide +kernel), fun _ => ⟨_, 0, rfl, by decide +kernel, by decide +kernel, r⟩⟩
  · exact ⟨by decide +kernel, by decide +kernel, _, rfl, fun z => absurd z (by decide +kernel), fun _ => ⟨_, 1, rfl, by decide +kernel, by decide +kernel, r⟩⟩
  · exact ⟨by decide +kernel, by decide +kernel, _, rfl, fun _ => r, fun z => absurd z (by decide +kernel)⟩
end Lr
namespace Lr
open PySem PySem.Spec PyProof.Rows Ab L2 TL
theorem aGood {a0 a1 a2 a3 a4 a5 a6 a7 a8 a9 a10 a12 a13 a14 a15 : Sl} {N : DD → Prop} {k z : Str} (hl : z.length ≤ 800) (q : N (.bool (sgn k (.str z)))) :
    aAndV (aB (dI fun i j => PyData.bool (decide (i < j))) (aCB dLenS (dCons (aV 11) dNil)) (aC (.int 41))) (aCB dAll (dCons (aO (aLc [15] (iS (aV 11)) (tgN 15) aYes (aB dInS (aV 15) (aC (.str k))))) dNil)) [a0, a1, a2, a3, a4, a5, a6, a7, a8, a9, a10, .va (.str z), a12, a13, a14, a15] N := by
  obtain ⟨b, e, h1, h2⟩ := good_eq q
  refine ⟨_, rfl, z, rfl, lineLe (by omega), _, _, rfl, rfl, b, e, fun hb => ?_, h2⟩
  refine ⟨.str z, rfl, z, rfl, lineLe (by rw [sgs_len]; omega), ?_⟩
  refine coll_sgs (fun c => .bool (decide (c ∈ k.cps.toList))) _ _ (fun c hc M r => ?_) ?_
  · exact ⟨_, rfl, c, k, rfl, rfl, r⟩
  · exact all_dec (h1 hb)
theorem aDigs {a0 a1 a2 a3 a4 a5 a6 a7 a8 a9 a10 a12 a13 a14 : Sl} {N : List DD → Prop} {z : Str} (hl : z.length ≤ 800) (hs : sgn "0123" (.str z) = true) (q : N (digs z)) :
    (sgs z).length ≤ lineD ∧ aColl (tgN 15) aYes (aCB dIntS (dCons (aV 15) dNil)) [a0, a1, a2, a3, a4, a5, a6, a7, a8, a9, a10, .va (.str z), a12, a13, a14, .un] N (sgs z) [] := by
  refine ⟨lineLe (by rw [sgs_len]; omega), ?_⟩
  refine coll_sgs (fun c => .int ((c : Int) - 48)) _ _ (fun c hc M r => ?_) q
  exact ⟨_, rfl, _, _, rfl, sg_int ((sgn_mem hs).2 c hc), Nat.le_of_ble_eq_true rfl, r⟩
theorem aLigs {a0 a1 a2 a3 a4 a5 a6 a7 a8 a9 a10 a12 a13 a14 : Sl} {N : List DD → Prop} {z : Str} (hl : z.length ≤ 800) (hs : sgn "01-" (.str z) = true) (q : N (ligs z)) :
    (sgs z).length ≤ lineD ∧ aColl (tgN 15) aYes (aIf (aT (aB dEq (aV 15) (aC (.str (Str.ofString "-"))))) (aC .none) (aCB dIntS (dCons (aV 15) dNil))) [a0, a1, a2, a3, a4, a5, a6, a7, a8, a9, a10, .va (.str z), a12, a13, a14, .un] N (sgs z) [] := by
  refine ⟨lineLe (by rw [sgs_len]; omega), ?_⟩
  refine coll_sgs (fun c => (lookT ligT (sg c)).getD .none) _ _ (fun c hc M r => ?_) q
  obtain ⟨g1, g2, b, e, h1, h2⟩ := lig_item ((sgn_mem hs).2 c hc) r
  exact ⟨_, rfl, g1, g2, b, e, h1, fun z => ⟨_, rfl, h2 z⟩⟩
end Lr

namespace Lx
open PySem PySem.Spec PyProof.Rows L2 Ab

def topS (i : Nat) : Stmt := PySem.Challenge.pw_lightrules_k26_whole_texts.main.body.getD i (.Pass ⟨0, 0, 0, 0⟩)
abbrev s_is_number : Stmt := topS 9
theorem sc_is_number : FnScope ["candidate", "least", "most"] ["candidate", "least", "most"] (defScope s_is_number) := ⟨rfl, rfl, rfl, by decide +kernel, rfl, by decide +kernel, by decide +kernel⟩
abbrev s_is_rule : Stmt := topS 10
theorem sc_is_rule : FnScope ["candidate", "word", "numbers", "number"] ["candidate"] (defScope s_is_rule) := ⟨rfl, rfl, rfl, by decide +kernel, rfl, by decide +kernel, by decide +kernel⟩
abbrev s__law_draw : Stmt := topS 28
theorem sc__law_draw : FnScope ["_law_script", "_law_town", "_law_many", "_law_one", "_law_at", "_law_mixed"] ["_law_script", "_law_town", "_law_many"] (defScope s__law_draw) := ⟨rfl, rfl, rfl, by decide +kernel, rfl, by decide +kernel, by decide +kernel⟩
abbrev s__law_pick : Stmt := topS 29
theorem sc__law_pick : FnScope ["_law_script", "_law_town", "_law_some"] ["_law_script", "_law_town", "_law_some"] (defScope s__law_pick) := ⟨rfl, rfl, rfl, by decide +kernel, rfl, by decide +kernel, by decide +kernel⟩
abbrev s__law_rule : Stmt := topS 31
theorem sc__law_rule : FnScope ["_law_script", "_law_town", "_law_word", "_law_numbers"] ["_law_script", "_law_town"] (defScope s__law_rule) := ⟨rfl, rfl, rfl, by decide +kernel, rfl, by decide +kernel, by decide +kernel⟩
abbrev s__law_comings : Stmt := topS 32
theorem sc__law_comings : FnScope ["_law_script", "_law_town", "_law_most", "_law_busy", "_law_row", "_law_k", "_law_coming"] ["_law_script", "_law_town", "_law_most"] (defScope s__law_comings) := ⟨rfl, rfl, rfl, by decide +kernel, rfl, by decide +kernel, by decide +kernel⟩
abbrev s__check_string : Stmt := topS 25
theorem sc__check_string : FnScope ["text"] ["text"] (defScope s__check_string) := ⟨rfl, rfl, rfl, by decide +kernel, rfl, by decide +kernel, by decide +kernel⟩
abbrev s__check_signs : Stmt := topS 26
theorem sc__check_signs : FnScope ["text", "known", "sign"] ["text", "known"] (defScope s__check_signs) := ⟨rfl, rfl, rfl, by decide +kernel, rfl, by decide +kernel, by decide +kernel⟩
abbrev s_parse_comings : Stmt := topS 20
theorem sc_parse_comings : FnScope ["text", "sign"] ["text"] (defScope s_parse_comings) := ⟨rfl, rfl, rfl, by decide +kernel, rfl, by decide +kernel, by decide +kernel⟩
abbrev s_parse_lights : Stmt := topS 22
theorem sc_parse_lights : FnScope ["text", "sign"] ["text"] (defScope s_parse_lights) := ⟨rfl, rfl, rfl, by decide +kernel, rfl, by decide +kernel, by decide +kernel⟩
abbrev s_parse_rule : Stmt := topS 24
theorem sc_parse_rule : FnScope ["text", "word", "figures", "numbers", "rule", "figure"] ["text"] (defScope s_parse_rule) := ⟨rfl, rfl, rfl, by decide +kernel, rfl, by decide +kernel, by decide +kernel⟩
abbrev s__law_read : Stmt := topS 34
theorem sc__law_read : FnScope ["_law_text", "_law_what", "error"] ["_law_text", "_law_what"] (defScope s__law_read) := ⟨rfl, rfl, rfl, by decide +kernel, rfl, by decide +kernel, by decide +kernel⟩
abbrev s_check_rule : Stmt := topS 12
theorem sc_check_rule : FnScope ["rule"] ["rule"] (defScope s_check_rule) := ⟨rfl, rfl, rfl, by decide +kernel, rfl, by decide +kernel, by decide +kernel⟩
abbrev s_format_rule : Stmt := topS 23
theorem sc_format_rule : FnScope ["rule", "part"] ["rule"] (defScope s_format_rule) := ⟨rfl, rfl, rfl, by decide +kernel, rfl, by decide +kernel, by decide +kernel⟩
abbrev s_are_comings : Stmt := topS 11
theorem sc_are_comings : FnScope ["candidate", "coming"] ["candidate"] (defScope s_are_comings) := ⟨rfl, rfl, rfl, by decide +kernel, rfl, by decide +kernel, by decide +kernel⟩
abbrev s_check_comings : Stmt := topS 13
theorem sc_check_comings : FnScope ["comings"] ["comings"] (defScope s_check_comings) := ⟨rfl, rfl, rfl, by decide +kernel, rfl, by decide +kernel, by decide +kernel⟩
abbrev s_format_comings : Stmt := topS 19
theorem sc_format_comings : FnScope ["comings", "coming"] ["comings"] (defScope s_format_comings) := ⟨rfl, rfl, rfl, by decide +kernel, rfl, by decide +kernel, by decide +kernel⟩
abbrev s__are_lights : Stmt := topS 15
theorem sc__are_lights : FnScope ["candidate", "light"] ["candidate"] (defScope s__are_lights) := ⟨rfl, rfl, rfl, by decide +kernel, rfl, by decide +kernel, by decide +kernel⟩
abbrev s_check_lights : Stmt := topS 14
theorem sc_check_lights : FnScope ["lights"] ["lights"] (defScope s_check_lights) := ⟨rfl, rfl, rfl, by decide +kernel, rfl, by decide +kernel, by decide +kernel⟩
abbrev s_format_lights : Stmt := topS 21
theorem sc_format_lights : FnScope ["lights", "light"] ["lights"] (defScope s_format_lights) := ⟨rfl, rfl, rfl, by decide +kernel, rfl, by decide +kernel, by decide +kernel⟩
abbrev s__law_told : Stmt := topS 35
theorem sc__law_told : FnScope ["_law_text", "_law_words", "_law_rule_here", "_law_word"] ["_law_text"] (defScope s__law_told) := ⟨rfl, rfl, rfl, by decide +kernel, rfl, by decide +kernel, by decide +kernel⟩
abbrev s_law : Stmt := topS 36
theorem sc_law : FnScope ["_law_script", "_law_town", "_law_rule_here", "_law_comings_here", "_law_turn", "_law_lights", "_law_text", "_law_line", "_law_row", "_law_at", "_law_sign", "_law_new", "_law_good", "_law_due", "_law_one", "_law_char"] ["_law_script"] (defScope s_law) := ⟨rfl, rfl, rfl, by decide +kernel, rfl, by decide +kernel, by decide +kernel⟩
variable {P : Program} {w : World} {K : PySem.W.Frag} {mg : Str → Option Value} {base : Heap} {k : Nat}
variable {C_LightError C_ParseError : Addr}
theorem t_is_number {f : Addr} {fd : FuncData}  (z_isinstance : mg "isinstance" = none) (z_bool : mg "bool" = none) (z_int : mg "int" = none) (F : Fun K "is_number" "is_number" s_is_number f fd) (gm : mg "is_number" = some (.ref f)) (hb : Binds K fd ["candidate", "least", "most"] []) : Cl P w K mg base (k + 1) "is_number" 3 Lr.W_is_number := by
  have nd := sc_is_number.nd
  refine def_ok (N := ["candidate", "least", "most"]) (ps := ["candidate", "least", "most"]) [] F sc_is_number gm hb ⟨_, fun cdv A outer s H E hr => have hu := hr.units; have hu2 := units65 hr
    (jss_cons (js_if (JW.t (jw_or (jt_not (jt_val (j_isi "int" (.inl rfl) z_isinstance (by decide +kernel) z_int (by decide +kernel) (jv 0)))) (jw_or1 (jt_val (j_isi "bool" (.inr (.inl rfl)) z_isinstance (by decide +kernel) z_bool (by decide +kernel) (jv 0)))))) (jss_one (js_ret j_bl)) jss_nil)
  (jss_one (js_ret (j_chain op_le sr_bl op_le sr_bl (jv 1) (jv 0) (jv 2))))), fun as Q hl hW => ?_⟩
  obtain ⟨d, lo, hi, rfl, q⟩ := hW
  cases d with
  | int i =>
    simp only [List.map_cons, List.map_nil, aSeq, aLc, iL, iT, iR1, iE, iZ, aSlT, aSlL, aNoP, aPt, wipeE, aIfS, aT, aB, aBO, aC, aSet, aRet, aTup, aLst, aO, dCons, dNil, aCB, aCBO, aOr, aAnd, aNot, aIf, aAndV, aOrV, aNotV, aSkip, aAsg, aAug, ex_vaint, tgN, aCall, gConsA, gNilA, gScA, gTownA, aPar2, aPar3, aV_eq, dI_i, dIC_i, dIx_t, dIx_l, dMin2_i, dMax2_i, dSumT_2, dLen_l, dLen_t, dEq_i, dNe_i, dEq_ni, dEq_in, dIs_i, dIs_n, dIsn_i, dIsn_n, dCat_l, dCatT_t, dListO_l, dListO_t, dTupleO_l, dTupleO_t, tgs2, tgs0, tgt, ite_t, ite_f, ex_l1i, ex_l1l, ex_l2l, ex_l1, ex_l2, ex_l3, ex_int, ex_bool, ex_some, ex_va, ex_ow, ex_sc, ex_list, ex_tuple, at0, at1, at2, at3, ln0, ln1, ln2, ln3, ln4, ln5, ln6, List.cons_append, List.nil_append, List.getElem?_cons_zero, List.getElem?_cons_succ, List.set_cons_zero, List.set_cons_succ, List.length_cons, List.length_nil, true_and, and_true, true_implies, forall_const, Bool.true_eq_false, Bool.false_eq_true, false_implies, decide_eq_true_eq, decide_eq_false_iff_not, Int.sub_self, Int.sub_zero, Int.reduceSub, Int.reduceAdd, Int.reduceNeg, Int.reduceEq, Int.reduceLT, Int.reduceLE, Int.reduceNe, if_true, if_false, reduceIte, decide_true, decide_false, decide_not, Bool.not_true, Bool.not_false, Bool.not_eq_true, Bool.not_eq_false, aChain, aIsi, Lr.isNum, show isiD "int" (.int i) = true from rfl, show isiD "bool" (.int i) = false from rfl] at q ⊢
    refine ⟨fun h => ?_, fun h => ?_⟩
    · simpa [h] using q
    · simpa [h] using q
  | bool b =>
    simp only [List.map_cons, List.map_nil, aSeq, aLc, iL, iT, iR1, iE, iZ, aSlT, aSlL, aNoP, aPt, wipeE, aIfS, aT, aB, aBO, aC, aSet, aRet, aTup, aLst, aO, dCons, dNil, aCB, aCBO, aOr, aAnd, aNot, aIf, aAndV, aOrV, aNotV, aSkip, aAsg, aAug, ex_vaint, tgN, aCall, gConsA, gNilA, gScA, gTownA, aPar2, aPar3, aV_eq, dI_i, dIC_i, dIx_t, dIx_l, dMin2_i, dMax2_i, dSumT_2, dLen_l, dLen_t, dEq_i, dNe_i, dEq_ni, dEq_in, dIs_i, dIs_n, dIsn_i, dIsn_n, dCat_l, dCatT_t, dListO_l, dListO_t, dTupleO_l, dTupleO_t, tgs2, tgs0, tgt, ite_t, ite_f, ex_l1i, ex_l1l, ex_l2l, ex_l1, ex_l2, ex_l3, ex_int, ex_bool, ex_some, ex_va, ex_ow, ex_sc, ex_list, ex_tuple, at0, at1, at2, at3, ln0, ln1, ln2, ln3, ln4, ln5, ln6, List.cons_append, List.nil_append, List.getElem?_cons_zero, List.getElem?_cons_succ, List.set_cons_zero, List.set_cons_succ, List.length_cons, List.length_nil, true_and, and_true, true_implies, forall_const, Bool.true_eq_false, Bool.false_eq_true, false_implies, decide_eq_true_eq, decide_eq_false_iff_not, Int.sub_self, Int.sub_zero, Int.reduceSub, Int.reduceAdd, Int.reduceNeg, Int.reduceEq, Int.reduceLT, Int.reduceLE, Int.reduceNe, if_true, if_false, reduceIte, decide_true, decide_false, decide_not, Bool.not_true, Bool.not_false, Bool.not_eq_true, Bool.not_eq_false, aIsi, Lr.isNum, show isiD "int" (.bool b) = true from rfl, show isiD "bool" (.bool b) = true from rfl] at q ⊢
    exact q
  | none =>
    simp only [List.map_cons, List.map_nil, aSeq, aLc, iL, iT, iR1, iE, iZ, aSlT, aSlL, aNoP, aPt, wipeE, aIfS, aT, aB, aBO, aC, aSet, aRet, aTup, aLst, aO, dCons, dNil, aCB, aCBO, aOr, aAnd, aNot, aIf, aAndV, aOrV, aNotV, aSkip, aAsg, aAug, ex_vaint, tgN, aCall, gConsA, gNilA, gScA, gTownA, aPar2, aPar3, aV_eq, dI_i, dIC_i, dIx_t, dIx_l, dMin2_i, dMax2_i, dSumT_2, dLen_l, dLen_t, dEq_i, dNe_i, dEq_ni, dEq_in, dIs_i, dIs_n, dIsn_i, dIsn_n, dCat_l, dCatT_t, dListO_l, dListO_t, dTupleO_l, dTupleO_t, tgs2, tgs0, tgt, ite_t, ite_f, ex_l1i, ex_l1l, ex_l2l, ex_l1, ex_l2, ex_l3, ex_int, ex_bool, ex_some, ex_va, ex_ow, ex_sc, ex_list, ex_tuple, at0, at1, at2, at3, ln0, ln1, ln2, ln3, ln4, ln5, ln6, List.cons_append, List.nil_append, List.getElem?_cons_zero, List.getElem?_cons_succ, List.set_cons_zero, List.set_cons_succ, List.length_cons, List.length_nil, true_and, and_true, true_implies, forall_const, Bool.true_eq_false, Bool.false_eq_true, false_implies, decide_eq_true_eq, decide_eq_false_iff_not, Int.sub_self, Int.sub_zero, Int.reduceSub, Int.reduceAdd, Int.reduceNeg, Int.reduceEq, Int.reduceLT, Int.reduceLE, Int.reduceNe, if_true, if_false, reduceIte, decide_true, decide_false, decide_not, Bool.not_true, Bool.not_false, Bool.not_eq_true, Bool.not_eq_false, aIsi, Lr.isNum, show isiD "int" .none = false from rfl] at q ⊢
    exact q
  | str x =>
    simp only [List.map_cons, List.map_nil, aSeq, aLc, iL, iT, iR1, iE, iZ, aSlT, aSlL, aNoP, aPt, wipeE, aIfS, aT, aB, aBO, aC, aSet, aRet, aTup, aLst, aO, dCons, dNil, aCB, aCBO, aOr, aAnd, aNot, aIf, aAndV, aOrV, aNotV, aSkip, aAsg, aAug, ex_vaint, tgN, aCall, gConsA, gNilA, gScA, gTownA, aPar2, aPar3, aV_eq, dI_i, dIC_i, dIx_t, dIx_l, dMin2_i, dMax2_i, dSumT_2, dLen_l, dLen_t, dEq_i, dNe_i, dEq_ni, dEq_in, dIs_i, dIs_n, dIsn_i, dIsn_n, dCat_l, dCatT_t, dListO_l, dListO_t, dTupleO_l, dTupleO_t, tgs2, tgs0, tgt, ite_t, ite_f, ex_l1i, ex_l1l, ex_l2l, ex_l1, ex_l2, ex_l3, ex_int, ex_bool, ex_some, ex_va, ex_ow, ex_sc, ex_list, ex_tuple, at0, at1, at2, at3, ln0, ln1, ln2, ln3, ln4, ln5, ln6, List.cons_append, List.nil_append, List.getElem?_cons_zero, List.getElem?_cons_succ, List.set_cons_zero, List.set_cons_succ, List.length_cons, List.length_nil, true_and, and_true, true_implies, forall_const, Bool.true_eq_false, Bool.false_eq_true, false_implies, decide_eq_true_eq, decide_eq_false_iff_not, Int.sub_self, Int.sub_zero, Int.reduceSub, Int.reduceAdd, Int.reduceNeg, Int.reduceEq, Int.reduceLT, Int.reduceLE, Int.reduceNe, if_true, if_false, reduceIte, decide_true, decide_false, decide_not, Bool.not_true, Bool.not_false, Bool.not_eq_true, Bool.not_eq_false, aIsi, Lr.isNum, show isiD "int" (.str x) = false from rfl] at q ⊢
    exact q
  | list x =>
    simp only [List.map_cons, List.map_nil, aSeq, aLc, iL, iT, iR1, iE, iZ, aSlT, aSlL, aNoP, aPt, wipeE, aIfS, aT, aB, aBO, aC, aSet, aRet, aTup, aLst, aO, dCons, dNil, aCB, aCBO, aOr, aAnd, aNot, aIf, aAndV, aOrV, aNotV, aSkip, aAsg, aAug, ex_vaint, tgN, aCall, gConsA, gNilA, gScA, gTownA, aPar2, aPar3, aV_eq, dI_i, dIC_i, dIx_t, dIx_l, dMin2_i, dMax2_i, dSumT_2, dLen_l, dLen_t, dEq_i, dNe_i, dEq_ni, dEq_in, dIs_i, dIs_n, dIsn_i, dIsn_n, dCat_l, dCatT_t, dListO_l, dListO_t, dTupleO_l, dTupleO_t, tgs2, tgs0, tgt, ite_t, ite_f, ex_l1i, ex_l1l, ex_l2l, ex_l1, ex_l2, ex_l3, ex_int, ex_bool, ex_some, ex_va, ex_ow, ex_sc, ex_list, ex_tuple, at0, at1, at2, at3, ln0, ln1, ln2, ln3, ln4, ln5, ln6, List.cons_append, List.nil_append, List.getElem?_cons_zero, List.getElem?_cons_succ, List.set_cons_zero, List.set_cons_succ, List.length_cons, List.length_nil, true_and, and_true, true_implies, forall_const, Bool.true_eq_false, Bool.false_eq_true, false_implies, decide_eq_true_eq, decide_eq_false_iff_not, Int.sub_self, Int.sub_zero, Int.reduceSub, Int.reduceAdd, Int.reduceNeg, Int.reduceEq, Int.reduceLT, Int.reduceLE, Int.reduceNe, if_true, if_false, reduceIte, decide_true, decide_false, decide_not, Bool.not_true, Bool.not_false, Bool.not_eq_true, Bool.not_eq_false, aIsi, Lr.isNum, show isiD "int" (.list x) = false from rfl] at q ⊢
    exact q
  | tuple x =>
    simp only [List.map_cons, List.map_nil, aSeq, aLc, iL, iT, iR1, iE, iZ, aSlT, aSlL, aNoP, aPt, wipeE, aIfS, aT, aB, aBO, aC, aSet, aRet, aTup, aLst, aO, dCons, dNil, aCB, aCBO, aOr, aAnd, aNot, aIf, aAndV, aOrV, aNotV, aSkip, aAsg, aAug, ex_vaint, tgN, aCall, gConsA, gNilA, gScA, gTownA, aPar2, aPar3, aV_eq, dI_i, dIC_i, dIx_t, dIx_l, dMin2_i, dMax2_i, dSumT_2, dLen_l, dLen_t, dEq_i, dNe_i, dEq_ni, dEq_in, dIs_i, dIs_n, dIsn_i, dIsn_n, dCat_l, dCatT_t, dListO_l, dListO_t, dTupleO_l, dTupleO_t, tgs2, tgs0, tgt, ite_t, ite_f, ex_l1i, ex_l1l, ex_l2l, ex_l1, ex_l2, ex_l3, ex_int, ex_bool, ex_some, ex_va, ex_ow, ex_sc, ex_list, ex_tuple, at0, at1, at2, at3, ln0, ln1, ln2, ln3, ln4, ln5, ln6, List.cons_append, List.nil_append, List.getElem?_cons_zero, List.getElem?_cons_succ, List.set_cons_zero, List.set_cons_succ, List.length_cons, List.length_nil, true_and, and_true, true_implies, forall_const, Bool.true_eq_false, Bool.false_eq_true, false_implies, decide_eq_true_eq, decide_eq_false_iff_not, Int.sub_self, Int.sub_zero, Int.reduceSub, Int.reduceAdd, Int.reduceNeg, Int.reduceEq, Int.reduceLT, Int.reduceLE, Int.reduceNe, if_true, if_false, reduceIte, decide_true, decide_false, decide_not, Bool.not_true, Bool.not_false, Bool.not_eq_true, Bool.not_eq_false, aIsi, Lr.isNum, show isiD "int" (.tuple x) = false from rfl] at q ⊢
    exact q
  | dict x =>
    simp only [List.map_cons, List.map_nil, aSeq, aLc, iL, iT, iR1, iE, iZ, aSlT, aSlL, aNoP, aPt, wipeE, aIfS, aT, aB, aBO, aC, aSet, aRet, aTup, aLst, aO, dCons, dNil, aCB, aCBO, aOr, aAnd, aNot, aIf, aAndV, aOrV, aNotV, aSkip, aAsg, aAug, ex_vaint, tgN, aCall, gConsA, gNilA, gScA, gTownA, aPar2, aPar3, aV_eq, dI_i, dIC_i, dIx_t, dIx_l, dMin2_i, dMax2_i, dSumT_2, dLen_l, dLen_t, dEq_i, dNe_i, dEq_ni, dEq_in, dIs_i, dIs_n, dIsn_i, dIsn_n, dCat_l, dCatT_t, dListO_l, dListO_t, dTupleO_l, dTupleO_t, tgs2, tgs0, tgt, ite_t, ite_f, ex_l1i, ex_l1l, ex_l2l, ex_l1, ex_l2, ex_l3, ex_int, ex_bool, ex_some, ex_va, ex_ow, ex_sc, ex_list, ex_tuple, at0, at1, at2, at3, ln0, ln1, ln2, ln3, ln4, ln5, ln6, List.cons_append, List.nil_append, List.getElem?_cons_zero, List.getElem?_cons_succ, List.set_cons_zero, List.set_cons_succ, List.length_cons, List.length_nil, true_and, and_true, true_implies, forall_const, Bool.true_eq_false, Bool.false_eq_true, false_implies, decide_eq_true_eq, decide_eq_false_iff_not, Int.sub_self, Int.sub_zero, Int.reduceSub, Int.reduceAdd, Int.reduceNeg, Int.reduceEq, Int.reduceLT, Int.reduceLE, Int.reduceNe, if_true, if_false, reduceIte, decide_true, decide_false, decide_not, Bool.not_true, Bool.not_false, Bool.not_eq_true, Bool.not_eq_false, aIsi, Lr.isNum, show isiD "int" (.dict x) = false from rfl] at q ⊢
    exact q

theorem t_is_rule {f : Addr} {fd : FuncData} (c_is_number : Cl P w K mg base k "is_number" 3 Lr.W_is_number) (z_len : mg "len" = none) (z_isinstance : mg "isinstance" = none) (z_tuple : mg "tuple" = none) (z_str : mg "str" = none) (z_all : mg "all" = none) (T3__NUMBERS_BEHIND : Tb K w mg "_NUMBERS_BEHIND" Lr.nbD) (F : Fun K "is_rule" "is_rule" s_is_rule f fd) (gm : mg "is_rule" = some (.ref f)) (hb : Binds K fd ["candidate"] []) : Cl P w K mg base (k + 1) "is_rule" 1 Lr.W_is_rule3 := by
  have nd := sc_is_rule.nd
  refine def_ok (N := ["candidate", "word", "numbers", "number"]) (ps := ["candidate"]) [Sl.un, Sl.un, Sl.un] F sc_is_rule gm hb ⟨_, fun cdv A outer s H E hr => have hu := hr.units; have hu2 := units65 hr
    (jss_cons (js_if (JW.t (jw_or (jt_not (jt_val (j_isi "tuple" (.inr (.inr (.inr (.inr rfl)))) z_isinstance (by decide +kernel) z_tuple (by decide +kernel) (jv 0)))) (jw_or1 (jt_eq hu (j_bi call_len_seq sc_len z_len PySem.boot_len (jd_cons (jv 0) jd_nil)) j_int)))) (jss_one (js_ret j_bl)) jss_nil)
  (jss_cons (js_asg (jv 0) (jg_star 1 2 rfl nd))
  (jss_cons (js_if (JW.t (jw_or (jt_not (jt_val (j_isi "str" (.inr (.inr (.inl rfl))) z_isinstance (by decide +kernel) z_str (by decide +kernel) (jv 1)))) (jw_or1 (jt_niT T3__NUMBERS_BEHIND (jv 1))))) (jss_one (js_ret j_bl)) jss_nil)
  (jss_cons (js_if (jt_ne hu (j_bi call_len_seq sc_len z_len PySem.boot_len (jd_cons (jv 2) jd_nil)) (j_ixT T3__NUMBERS_BEHIND (jv 1))) (jss_one (js_ret j_bl)) jss_nil)
  (jss_one (js_ret (j_bi (cr_all rfl) sc_all z_all (by decide +kernel) (jd_cons (JO.je (j_lc (own := [("number", 3)]) rfl nd (ji_list (jv 2)) (blkOk_by (N := ["candidate", "word", "numbers", "number"]) (sc := defScope s_is_rule) (by decide +kernel)) (fun _ _ _ _ _ => pg_name (i := 3) nd rfl (by first | exact Or.inl rfl | exact Or.inr rfl)) simgw_name (fun _ _ _ _ _ => (j_call c_is_number hr (ja_cons (jv 3) (ja_cons j_int (ja_cons j_int ja_nil))))))) jd_nil)))))))), fun as Q hl hW => ?_⟩
  obtain ⟨d, rfl, hd, q⟩ := hW
  match d, hd, q with
  | .tuple [], hd, q =>
    simp only [List.map_cons, List.map_nil, aSeq, aLc, iL, iT, iR1, iE, iZ, aSlT, aSlL, aNoP, aPt, wipeE, aIfS, aT, aB, aBO, aC, aSet, aRet, aTup, aLst, aO, dCons, dNil, aCB, aCBO, aOr, aAnd, aNot, aIf, aAndV, aOrV, aNotV, aSkip, aAsg, aAug, ex_vaint, tgN, aCall, gConsA, gNilA, gScA, gTownA, aPar2, aPar3, aV_eq, dI_i, dIC_i, dIx_t, dIx_l, dMin2_i, dMax2_i, dSumT_2, dLen_l, dLen_t, dEq_i, dNe_i, dEq_ni, dEq_in, dIs_i, dIs_n, dIsn_i, dIsn_n, dCat_l, dCatT_t, dListO_l, dListO_t, dTupleO_l, dTupleO_t, tgs2, tgs0, tgt, ite_t, ite_f, ex_l1i, ex_l1l, ex_l2l, ex_l1, ex_l2, ex_l3, ex_int, ex_bool, ex_some, ex_va, ex_ow, ex_sc, ex_list, ex_tuple, at0, at1, at2, at3, ln0, ln1, ln2, ln3, ln4, ln5, ln6, List.cons_append, List.nil_append, List.getElem?_cons_zero, List.getElem?_cons_succ, List.set_cons_zero, List.set_cons_succ, List.length_cons, List.length_nil, true_and, and_true, true_implies, forall_const, Bool.true_eq_false, Bool.false_eq_true, false_implies, decide_eq_true_eq, decide_eq_false_iff_not, Int.sub_self, Int.sub_zero, Int.reduceSub, Int.reduceAdd, Int.reduceNeg, Int.reduceEq, Int.reduceLT, Int.reduceLE, Int.reduceNe, if_true, if_false, reduceIte, decide_true, decide_false, decide_not, Bool.not_true, Bool.not_false, Bool.not_eq_true, Bool.not_eq_false, aIsi, show isiD "tuple" (.tuple []) = true from rfl, Lr.isRule] at q ⊢
    (repeat' (first | exact q | (apply And.intro) | (intro _))) <;> (exfalso; simp_all; done)
  | .tuple (x :: ns), hd, q =>
    have hx := hd _ rfl
    rw [List.length_cons] at hx
    have e1 : ¬ ((((ns.length + 1 : Nat)) : Int) = 0) := by omega
    simp only [List.map_cons, List.map_nil, aSeq, aLc, iL, iT, iR1, iE, iZ, aSlT, aSlL, aNoP, aPt, wipeE, aIfS, aT, aB, aBO, aC, aSet, aRet, aTup, aLst, aO, dCons, dNil, aCB, aCBO, aOr, aAnd, aNot, aIf, aAndV, aOrV, aNotV, aSkip, aAsg, aAug, ex_vaint, tgN, aCall, gConsA, gNilA, gScA, gTownA, aPar2, aPar3, aV_eq, dI_i, dIC_i, dIx_t, dIx_l, dMin2_i, dMax2_i, dSumT_2, dLen_l, dLen_t, dEq_i, dNe_i, dEq_ni, dEq_in, dIs_i, dIs_n, dIsn_i, dIsn_n, dCat_l, dCatT_t, dListO_l, dListO_t, dTupleO_l, dTupleO_t, tgs2, tgs0, tgt, ite_t, ite_f, ex_l1i, ex_l1l, ex_l2l, ex_l1, ex_l2, ex_l3, ex_int, ex_bool, ex_some, ex_va, ex_ow, ex_sc, ex_list, ex_tuple, at0, at1, at2, at3, ln0, ln1, ln2, ln3, ln4, ln5, ln6, List.cons_append, List.nil_append, List.getElem?_cons_zero, List.getElem?_cons_succ, List.set_cons_zero, List.set_cons_succ, List.length_cons, List.length_nil, true_and, and_true, true_implies, forall_const, Bool.true_eq_false, Bool.false_eq_true, false_implies, decide_eq_true_eq, decide_eq_false_iff_not, Int.sub_self, Int.sub_zero, Int.reduceSub, Int.reduceAdd, Int.reduceNeg, Int.reduceEq, Int.reduceLT, Int.reduceLE, Int.reduceNe, if_true, if_false, reduceIte, decide_true, decide_false, decide_not, Bool.not_true, Bool.not_false, Bool.not_eq_true, Bool.not_eq_false, aIsi, show isiD "tuple" (.tuple (x :: ns)) = true from rfl, e1, tgStar] at q ⊢
    refine ⟨x, ns, rfl, by omega, ?_⟩
    match x, hd, q with
    | .str z, hd, q =>
      cases eg : Lr.nbGet z with
      | some n =>
        have hn : Lr.nbGet z = some n := eg
        simp only [List.map_cons, List.map_nil, aSeq, aLc, iL, iT, iR1, iE, iZ, aSlT, aSlL, aNoP, aPt, wipeE, aIfS, aT, aB, aBO, aC, aSet, aRet, aTup, aLst, aO, dCons, dNil, aCB, aCBO, aOr, aAnd, aNot, aIf, aAndV, aOrV, aNotV, aSkip, aAsg, aAug, ex_vaint, tgN, aCall, gConsA, gNilA, gScA, gTownA, aPar2, aPar3, aV_eq, dI_i, dIC_i, dIx_t, dIx_l, dMin2_i, dMax2_i, dSumT_2, dLen_l, dLen_t, dEq_i, dNe_i, dEq_ni, dEq_in, dIs_i, dIs_n, dIsn_i, dIsn_n, dCat_l, dCatT_t, dListO_l, dListO_t, dTupleO_l, dTupleO_t, tgs2, tgs0, tgt, ite_t, ite_f, ex_l1i, ex_l1l, ex_l2l, ex_l1, ex_l2, ex_l3, ex_int, ex_bool, ex_some, ex_va, ex_ow, ex_sc, ex_list, ex_tuple, at0, at1, at2, at3, ln0, ln1, ln2, ln3, ln4, ln5, ln6, List.cons_append, List.nil_append, List.getElem?_cons_zero, List.getElem?_cons_succ, List.set_cons_zero, List.set_cons_succ, List.length_cons, List.length_nil, true_and, and_true, true_implies, forall_const, Bool.true_eq_false, Bool.false_eq_true, false_implies, decide_eq_true_eq, decide_eq_false_iff_not, Int.sub_self, Int.sub_zero, Int.reduceSub, Int.reduceAdd, Int.reduceNeg, Int.reduceEq, Int.reduceLT, Int.reduceLE, Int.reduceNe, if_true, if_false, reduceIte, decide_true, decide_false, decide_not, Bool.not_true, Bool.not_false, Bool.not_eq_true, Bool.not_eq_false, aIsi, aNiT, aIxT, show isiD "str" (.str z) = true from rfl, Lr.isRule, hn] at q ⊢
        refine ⟨z, rfl, ?_⟩
        rw [Lr.look_nb, hn]
        simp only [Option.map_some, Option.isNone_some]
        try simp only [List.map_cons, List.map_nil, aSeq, aLc, iL, iT, iR1, iE, iZ, aSlT, aSlL, aNoP, aPt, wipeE, aIfS, aT, aB, aBO, aC, aSet, aRet, aTup, aLst, aO, dCons, dNil, aCB, aCBO, aOr, aAnd, aNot, aIf, aAndV, aOrV, aNotV, aSkip, aAsg, aAug, ex_vaint, tgN, aCall, gConsA, gNilA, gScA, gTownA, aPar2, aPar3, aV_eq, dI_i, dIC_i, dIx_t, dIx_l, dMin2_i, dMax2_i, dSumT_2, dLen_l, dLen_t, dEq_i, dNe_i, dEq_ni, dEq_in, dIs_i, dIs_n, dIsn_i, dIsn_n, dCat_l, dCatT_t, dListO_l, dListO_t, dTupleO_l, dTupleO_t, tgs2, tgs0, tgt, ite_t, ite_f, ex_l1i, ex_l1l, ex_l2l, ex_l1, ex_l2, ex_l3, ex_int, ex_bool, ex_some, ex_va, ex_ow, ex_sc, ex_list, ex_tuple, at0, at1, at2, at3, ln0, ln1, ln2, ln3, ln4, ln5, ln6, List.cons_append, List.nil_append, List.getElem?_cons_zero, List.getElem?_cons_succ, List.set_cons_zero, List.set_cons_succ, List.length_cons, List.length_nil, true_and, and_true, true_implies, forall_const, Bool.true_eq_false, Bool.false_eq_true, false_implies, decide_eq_true_eq, decide_eq_false_iff_not, Int.sub_self, Int.sub_zero, Int.reduceSub, Int.reduceAdd, Int.reduceNeg, Int.reduceEq, Int.reduceLT, Int.reduceLE, Int.reduceNe, if_true, if_false, reduceIte, decide_true, decide_false, decide_not, Bool.not_true, Bool.not_false, Bool.not_eq_true, Bool.not_eq_false]
        refine ⟨z, _, rfl, by rw [Lr.look_nb, hn]; rfl, ?_⟩
        try simp only [List.map_cons, List.map_nil, aSeq, aLc, iL, iT, iR1, iE, iZ, aSlT, aSlL, aNoP, aPt, wipeE, aIfS, aT, aB, aBO, aC, aSet, aRet, aTup, aLst, aO, dCons, dNil, aCB, aCBO, aOr, aAnd, aNot, aIf, aAndV, aOrV, aNotV, aSkip, aAsg, aAug, ex_vaint, tgN, aCall, gConsA, gNilA, gScA, gTownA, aPar2, aPar3, aV_eq, dI_i, dIC_i, dIx_t, dIx_l, dMin2_i, dMax2_i, dSumT_2, dLen_l, dLen_t, dEq_i, dNe_i, dEq_ni, dEq_in, dIs_i, dIs_n, dIsn_i, dIsn_n, dCat_l, dCatT_t, dListO_l, dListO_t, dTupleO_l, dTupleO_t, tgs2, tgs0, tgt, ite_t, ite_f, ex_l1i, ex_l1l, ex_l2l, ex_l1, ex_l2, ex_l3, ex_int, ex_bool, ex_some, ex_va, ex_ow, ex_sc, ex_list, ex_tuple, at0, at1, at2, at3, ln0, ln1, ln2, ln3, ln4, ln5, ln6, List.cons_append, List.nil_append, List.getElem?_cons_zero, List.getElem?_cons_succ, List.set_cons_zero, List.set_cons_succ, List.length_cons, List.length_nil, true_and, and_true, true_implies, forall_const, Bool.true_eq_false, Bool.false_eq_true, false_implies, decide_eq_true_eq, decide_eq_false_iff_not, Int.sub_self, Int.sub_zero, Int.reduceSub, Int.reduceAdd, Int.reduceNeg, Int.reduceEq, Int.reduceLT, Int.reduceLE, Int.reduceNe, if_true, if_false, reduceIte, decide_true, decide_false, decide_not, Bool.not_true, Bool.not_false, Bool.not_eq_true, Bool.not_eq_false]
        refine ⟨fun h => ?_, fun h => ?_⟩
        · have h : ¬ ((ns.length : Int) = n) := by simpa using h
          rw [decide_eq_false h, Bool.false_and] at q
          exact q
        · have h : ((ns.length : Int) = n) := by simpa using h
          rw [decide_eq_true h, Bool.true_and] at q
          refine ⟨lineLe (by omega), coll_map (fun d => .bool (Lr.isNum 1 4 d)) ns [] (fun d hd Q q => ?_) ?_⟩
          · simp only [List.map_cons, List.map_nil, aSeq, aLc, iL, iT, iR1, iE, iZ, aSlT, aSlL, aNoP, aPt, wipeE, aIfS, aT, aB, aBO, aC, aSet, aRet, aTup, aLst, aO, dCons, dNil, aCB, aCBO, aOr, aAnd, aNot, aIf, aAndV, aOrV, aNotV, aSkip, aAsg, aAug, ex_vaint, tgN, aCall, gConsA, gNilA, gScA, gTownA, aPar2, aPar3, aV_eq, dI_i, dIC_i, dIx_t, dIx_l, dMin2_i, dMax2_i, dSumT_2, dLen_l, dLen_t, dEq_i, dNe_i, dEq_ni, dEq_in, dIs_i, dIs_n, dIsn_i, dIsn_n, dCat_l, dCatT_t, dListO_l, dListO_t, dTupleO_l, dTupleO_t, tgs2, tgs0, tgt, ite_t, ite_f, ex_l1i, ex_l1l, ex_l2l, ex_l1, ex_l2, ex_l3, ex_int, ex_bool, ex_some, ex_va, ex_ow, ex_sc, ex_list, ex_tuple, at0, at1, at2, at3, ln0, ln1, ln2, ln3, ln4, ln5, ln6, List.cons_append, List.nil_append, List.getElem?_cons_zero, List.getElem?_cons_succ, List.set_cons_zero, List.set_cons_succ, List.length_cons, List.length_nil, true_and, and_true, true_implies, forall_const, Bool.true_eq_false, Bool.false_eq_true, false_implies, decide_eq_true_eq, decide_eq_false_iff_not, Int.sub_self, Int.sub_zero, Int.reduceSub, Int.reduceAdd, Int.reduceNeg, Int.reduceEq, Int.reduceLT, Int.reduceLE, Int.reduceNe, if_true, if_false, reduceIte, decide_true, decide_false, decide_not, Bool.not_true, Bool.not_false, Bool.not_eq_true, Bool.not_eq_false, wipeE, Lr.W_is_number_i]
            exact q
          · exact ⟨ns.map (Lr.isNum 1 4), by simp, by simpa [List.all_map, Function.comp] using q⟩
      | none =>
        have q0 : Lr.isRule (.tuple (.str z :: ns)) = false := by simp only [Lr.isRule, eg]
        rw [q0] at q
        simp only [List.map_cons, List.map_nil, aSeq, aLc, iL, iT, iR1, iE, iZ, aSlT, aSlL, aNoP, aPt, wipeE, aIfS, aT, aB, aBO, aC, aSet, aRet, aTup, aLst, aO, dCons, dNil, aCB, aCBO, aOr, aAnd, aNot, aIf, aAndV, aOrV, aNotV, aSkip, aAsg, aAug, ex_vaint, tgN, aCall, gConsA, gNilA, gScA, gTownA, aPar2, aPar3, aV_eq, dI_i, dIC_i, dIx_t, dIx_l, dMin2_i, dMax2_i, dSumT_2, dLen_l, dLen_t, dEq_i, dNe_i, dEq_ni, dEq_in, dIs_i, dIs_n, dIsn_i, dIsn_n, dCat_l, dCatT_t, dListO_l, dListO_t, dTupleO_l, dTupleO_t, tgs2, tgs0, tgt, ite_t, ite_f, ex_l1i, ex_l1l, ex_l2l, ex_l1, ex_l2, ex_l3, ex_int, ex_bool, ex_some, ex_va, ex_ow, ex_sc, ex_list, ex_tuple, at0, at1, at2, at3, ln0, ln1, ln2, ln3, ln4, ln5, ln6, List.cons_append, List.nil_append, List.getElem?_cons_zero, List.getElem?_cons_succ, List.set_cons_zero, List.set_cons_succ, List.length_cons, List.length_nil, true_and, and_true, true_implies, forall_const, Bool.true_eq_false, Bool.false_eq_true, false_implies, decide_eq_true_eq, decide_eq_false_iff_not, Int.sub_self, Int.sub_zero, Int.reduceSub, Int.reduceAdd, Int.reduceNeg, Int.reduceEq, Int.reduceLT, Int.reduceLE, Int.reduceNe, if_true, if_false, reduceIte, decide_true, decide_false, decide_not, Bool.not_true, Bool.not_false, Bool.not_eq_true, Bool.not_eq_false, aIsi, aNiT, aIxT, show isiD "str" (.str z) = true from rfl]
        refine ⟨z, rfl, ?_⟩
        rw [Lr.look_nb, eg]
        simp only [Option.map_none, Option.isNone_none, List.map_cons, List.map_nil, aSeq, aLc, iL, iT, iR1, iE, iZ, aSlT, aSlL, aNoP, aPt, wipeE, aIfS, aT, aB, aBO, aC, aSet, aRet, aTup, aLst, aO, dCons, dNil, aCB, aCBO, aOr, aAnd, aNot, aIf, aAndV, aOrV, aNotV, aSkip, aAsg, aAug, ex_vaint, tgN, aCall, gConsA, gNilA, gScA, gTownA, aPar2, aPar3, aV_eq, dI_i, dIC_i, dIx_t, dIx_l, dMin2_i, dMax2_i, dSumT_2, dLen_l, dLen_t, dEq_i, dNe_i, dEq_ni, dEq_in, dIs_i, dIs_n, dIsn_i, dIsn_n, dCat_l, dCatT_t, dListO_l, dListO_t, dTupleO_l, dTupleO_t, tgs2, tgs0, tgt, ite_t, ite_f, ex_l1i, ex_l1l, ex_l2l, ex_l1, ex_l2, ex_l3, ex_int, ex_bool, ex_some, ex_va, ex_ow, ex_sc, ex_list, ex_tuple, at0, at1, at2, at3, ln0, ln1, ln2, ln3, ln4, ln5, ln6, List.cons_append, List.nil_append, List.getElem?_cons_zero, List.getElem?_cons_succ, List.set_cons_zero, List.set_cons_succ, List.length_cons, List.length_nil, true_and, and_true, true_implies, forall_const, Bool.true_eq_false, Bool.false_eq_true, false_implies, decide_eq_true_eq, decide_eq_false_iff_not, Int.sub_self, Int.sub_zero, Int.reduceSub, Int.reduceAdd, Int.reduceNeg, Int.reduceEq, Int.reduceLT, Int.reduceLE, Int.reduceNe, if_true, if_false, reduceIte, decide_true, decide_false, decide_not, Bool.not_true, Bool.not_false, Bool.not_eq_true, Bool.not_eq_false]
        exact q
    | .int i, hd, q =>
      simp only [List.map_cons, List.map_nil, aSeq, aLc, iL, iT, iR1, iE, iZ, aSlT, aSlL, aNoP, aPt, wipeE, aIfS, aT, aB, aBO, aC, aSet, aRet, aTup, aLst, aO, dCons, dNil, aCB, aCBO, aOr, aAnd, aNot, aIf, aAndV, aOrV, aNotV, aSkip, aAsg, aAug, ex_vaint, tgN, aCall, gConsA, gNilA, gScA, gTownA, aPar2, aPar3, aV_eq, dI_i, dIC_i, dIx_t, dIx_l, dMin2_i, dMax2_i, dSumT_2, dLen_l, dLen_t, dEq_i, dNe_i, dEq_ni, dEq_in, dIs_i, dIs_n, dIsn_i, dIsn_n, dCat_l, dCatT_t, dListO_l, dListO_t, dTupleO_l, dTupleO_t, tgs2, tgs0, tgt, ite_t, ite_f, ex_l1i, ex_l1l, ex_l2l, ex_l1, ex_l2, ex_l3, ex_int, ex_bool, ex_some, ex_va, ex_ow, ex_sc, ex_list, ex_tuple, at0, at1, at2, at3, ln0, ln1, ln2, ln3, ln4, ln5, ln6, List.cons_append, List.nil_append, List.getElem?_cons_zero, List.getElem?_cons_succ, List.set_cons_zero, List.set_cons_succ, List.length_cons, List.length_nil, true_and, and_true, true_implies, forall_const, Bool.true_eq_false, Bool.false_eq_true, false_implies, decide_eq_true_eq, decide_eq_false_iff_not, Int.sub_self, Int.sub_zero, Int.reduceSub, Int.reduceAdd, Int.reduceNeg, Int.reduceEq, Int.reduceLT, Int.reduceLE, Int.reduceNe, if_true, if_false, reduceIte, decide_true, decide_false, decide_not, Bool.not_true, Bool.not_false, Bool.not_eq_true, Bool.not_eq_false, aIsi, show isiD "str" (.int i) = false from rfl, Lr.isRule] at q ⊢
      exact q
    | .bool i, hd, q =>
      simp only [List.map_cons, List.map_nil, aSeq, aLc, iL, iT, iR1, iE, iZ, aSlT, aSlL, aNoP, aPt, wipeE, aIfS, aT, aB, aBO, aC, aSet, aRet, aTup, aLst, aO, dCons, dNil, aCB, aCBO, aOr, aAnd, aNot, aIf, aAndV, aOrV, aNotV, aSkip, aAsg, aAug, ex_vaint, tgN, aCall, gConsA, gNilA, gScA, gTownA, aPar2, aPar3, aV_eq, dI_i, dIC_i, dIx_t, dIx_l, dMin2_i, dMax2_i, dSumT_2, dLen_l, dLen_t, dEq_i, dNe_i, dEq_ni, dEq_in, dIs_i, dIs_n, dIsn_i, dIsn_n, dCat_l, dCatT_t, dListO_l, dListO_t, dTupleO_l, dTupleO_t, tgs2, tgs0, tgt, ite_t, ite_f, ex_l1i, ex_l1l, ex_l2l, ex_l1, ex_l2, ex_l3, ex_int, ex_bool, ex_some, ex_va, ex_ow, ex_sc, ex_list, ex_tuple, at0, at1, at2, at3, ln0, ln1, ln2, ln3, ln4, ln5, ln6, List.cons_append, List.nil_append, List.getElem?_cons_zero, List.getElem?_cons_succ, List.set_cons_zero, List.set_cons_succ, List.length_cons, List.length_nil, true_and, and_true, true_implies, forall_const, Bool.true_eq_false, Bool.false_eq_true, false_implies, decide_eq_true_eq, decide_eq_false_iff_not, Int.sub_self, Int.sub_zero, Int.reduceSub, Int.reduceAdd, Int.reduceNeg, Int.reduceEq, Int.reduceLT, Int.reduceLE, Int.reduceNe, if_true, if_false, reduceIte, decide_true, decide_false, decide_not, Bool.not_true, Bool.not_false, Bool.not_eq_true, Bool.not_eq_false, aIsi, show isiD "str" (.bool i) = false from rfl, Lr.isRule] at q ⊢
      exact q
    | .none, hd, q =>
      simp only [List.map_cons, List.map_nil, aSeq, aLc, iL, iT, iR1, iE, iZ, aSlT, aSlL, aNoP, aPt, wipeE, aIfS, aT, aB, aBO, aC, aSet, aRet, aTup, aLst, aO, dCons, dNil, aCB, aCBO, aOr, aAnd, aNot, aIf, aAndV, aOrV, aNotV, aSkip, aAsg, aAug, ex_vaint, tgN, aCall, gConsA, gNilA, gScA, gTownA, aPar2, aPar3, aV_eq, dI_i, dIC_i, dIx_t, dIx_l, dMin2_i, dMax2_i, dSumT_2, dLen_l, dLen_t, dEq_i, dNe_i, dEq_ni, dEq_in, dIs_i, dIs_n, dIsn_i, dIsn_n, dCat_l, dCatT_t, dListO_l, dListO_t, dTupleO_l, dTupleO_t, tgs2, tgs0, tgt, ite_t, ite_f, ex_l1i, ex_l1l, ex_l2l, ex_l1, ex_l2, ex_l3, ex_int, ex_bool, ex_some, ex_va, ex_ow, ex_sc, ex_list, ex_tuple, at0, at1, at2, at3, ln0, ln1, ln2, ln3, ln4, ln5, ln6, List.cons_append, List.nil_append, List.getElem?_cons_zero, List.getElem?_cons_succ, List.set_cons_zero, List.set_cons_succ, List.length_cons, List.length_nil, true_and, and_true, true_implies, forall_const, Bool.true_eq_false, Bool.false_eq_true, false_implies, decide_eq_true_eq, decide_eq_false_iff_not, Int.sub_self, Int.sub_zero, Int.reduceSub, Int.reduceAdd, Int.reduceNeg, Int.reduceEq, Int.reduceLT, Int.reduceLE, Int.reduceNe, if_true, if_false, reduceIte, decide_true, decide_false, decide_not, Bool.not_true, Bool.not_false, Bool.not_eq_true, Bool.not_eq_false, aIsi, show isiD "str" .none = false from rfl, Lr.isRule] at q ⊢
      exact q
    | .list i, hd, q =>
      simp only [List.map_cons, List.map_nil, aSeq, aLc, iL, iT, iR1, iE, iZ, aSlT, aSlL, aNoP, aPt, wipeE, aIfS, aT, aB, aBO, aC, aSet, aRet, aTup, aLst, aO, dCons, dNil, aCB, aCBO, aOr, aAnd, aNot, aIf, aAndV, aOrV, aNotV, aSkip, aAsg, aAug, ex_vaint, tgN, aCall, gConsA, gNilA, gScA, gTownA, aPar2, aPar3, aV_eq, dI_i, dIC_i, dIx_t, dIx_l, dMin2_i, dMax2_i, dSumT_2, dLen_l, dLen_t, dEq_i, dNe_i, dEq_ni, dEq_in, dIs_i, dIs_n, dIsn_i, dIsn_n, dCat_l, dCatT_t, dListO_l, dListO_t, dTupleO_l, dTupleO_t, tgs2, tgs0, tgt, ite_t, ite_f, ex_l1i, ex_l1l, ex_l2l, ex_l1, ex_l2, ex_l3, ex_int, ex_bool, ex_some, ex_va, ex_ow, ex_sc, ex_list, ex_tuple, at0, at1, at2, at3, ln0, ln1, ln2, ln3, ln4, ln5, ln6, List.cons_append, List.nil_append, List.getElem?_cons_zero, List.getElem?_cons_succ, List.set_cons_zero, List.set_cons_succ, List.length_cons, List.length_nil, true_and, and_true, true_implies, forall_const, Bool.true_eq_false, Bool.false_eq_true, false_implies, decide_eq_true_eq, decide_eq_false_iff_not, Int.sub_self, Int.sub_zero, Int.reduceSub, Int.reduceAdd, Int.reduceNeg, Int.reduceEq, Int.reduceLT, Int.reduceLE, Int.reduceNe, if_true, if_false, reduceIte, decide_true, decide_false, decide_not, Bool.not_true, Bool.not_false, Bool.not_eq_true, Bool.not_eq_false, aIsi, show isiD "str" (.list i) = false from rfl, Lr.isRule] at q ⊢
      exact q
    | .tuple i, hd, q =>
      simp only [List.map_cons, List.map_nil, aSeq, aLc, iL, iT, iR1, iE, iZ, aSlT, aSlL, aNoP, aPt, wipeE, aIfS, aT, aB, aBO, aC, aSet, aRet, aTup, aLst, aO, dCons, dNil, aCB, aCBO, aOr, aAnd, aNot, aIf, aAndV, aOrV, aNotV, aSkip, aAsg, aAug, ex_vaint, tgN, aCall, gConsA, gNilA, gScA, gTownA, aPar2, aPar3, aV_eq, dI_i, dIC_i, dIx_t, dIx_l, dMin2_i, dMax2_i, dSumT_2, dLen_l, dLen_t, dEq_i, dNe_i, dEq_ni, dEq_in, dIs_i, dIs_n, dIsn_i, dIsn_n, dCat_l, dCatT_t, dListO_l, dListO_t, dTupleO_l, dTupleO_t, tgs2, tgs0, tgt, ite_t, ite_f, ex_l1i, ex_l1l, ex_l2l, ex_l1, ex_l2, ex_l3, ex_int, ex_bool, ex_some, ex_va, ex_ow, ex_sc, ex_list, ex_tuple, at0, at1, at2, at3, ln0, ln1, ln2, ln3, ln4, ln5, ln6, List.cons_append, List.nil_append, List.getElem?_cons_zero, List.getElem?_cons_succ, List.set_cons_zero, List.set_cons_succ, List.length_cons, List.length_nil, true_and, and_true, true_implies, forall_const, Bool.true_eq_false, Bool.false_eq_true, false_implies, decide_eq_true_eq, decide_eq_false_iff_not, Int.sub_self, Int.sub_zero, Int.reduceSub, Int.reduceAdd, Int.reduceNeg, Int.reduceEq, Int.reduceLT, Int.reduceLE, Int.reduceNe, if_true, if_false, reduceIte, decide_true, decide_false, decide_not, Bool.not_true, Bool.not_false, Bool.not_eq_true, Bool.not_eq_false, aIsi, show isiD "str" (.tuple i) = false from rfl, Lr.isRule] at q ⊢
      exact q
    | .dict i, hd, q =>
      simp only [List.map_cons, List.map_nil, aSeq, aLc, iL, iT, iR1, iE, iZ, aSlT, aSlL, aNoP, aPt, wipeE, aIfS, aT, aB, aBO, aC, aSet, aRet, aTup, aLst, aO, dCons, dNil, aCB, aCBO, aOr, aAnd, aNot, aIf, aAndV, aOrV, aNotV, aSkip, aAsg, aAug, ex_vaint, tgN, aCall, gConsA, gNilA, gScA, gTownA, aPar2, aPar3, aV_eq, dI_i, dIC_i, dIx_t, dIx_l, dMin2_i, dMax2_i, dSumT_2, dLen_l, dLen_t, dEq_i, dNe_i, dEq_ni, dEq_in, dIs_i, dIs_n, dIsn_i, dIsn_n, dCat_l, dCatT_t, dListO_l, dListO_t, dTupleO_l, dTupleO_t, tgs2, tgs0, tgt, ite_t, ite_f, ex_l1i, ex_l1l, ex_l2l, ex_l1, ex_l2, ex_l3, ex_int, ex_bool, ex_some, ex_va, ex_ow, ex_sc, ex_list, ex_tuple, at0, at1, at2, at3, ln0, ln1, ln2, ln3, ln4, ln5, ln6, List.cons_append, List.nil_append, List.getElem?_cons_zero, List.getElem?_cons_succ, List.set_cons_zero, List.set_cons_succ, List.length_cons, List.length_nil, true_and, and_true, true_implies, forall_const, Bool.true_eq_false, Bool.false_eq_true, false_implies, decide_eq_true_eq, decide_eq_false_iff_not, Int.sub_self, Int.sub_zero, Int.reduceSub, Int.reduceAdd, Int.reduceNeg, Int.reduceEq, Int.reduceLT, Int.reduceLE, Int.reduceNe, if_true, if_false, reduceIte, decide_true, decide_false, decide_not, Bool.not_true, Bool.not_false, Bool.not_eq_true, Bool.not_eq_false, aIsi, show isiD "str" (.dict i) = false from rfl, Lr.isRule] at q ⊢
      exact q
  | .int i, hd, q =>
    simp only [List.map_cons, List.map_nil, aSeq, aLc, iL, iT, iR1, iE, iZ, aSlT, aSlL, aNoP, aPt, wipeE, aIfS, aT, aB, aBO, aC, aSet, aRet, aTup, aLst, aO, dCons, dNil, aCB, aCBO, aOr, aAnd, aNot, aIf, aAndV, aOrV, aNotV, aSkip, aAsg, aAug, ex_vaint, tgN, aCall, gConsA, gNilA, gScA, gTownA, aPar2, aPar3, aV_eq, dI_i, dIC_i, dIx_t, dIx_l, dMin2_i, dMax2_i, dSumT_2, dLen_l, dLen_t, dEq_i, dNe_i, dEq_ni, dEq_in, dIs_i, dIs_n, dIsn_i, dIsn_n, dCat_l, dCatT_t, dListO_l, dListO_t, dTupleO_l, dTupleO_t, tgs2, tgs0, tgt, ite_t, ite_f, ex_l1i, ex_l1l, ex_l2l, ex_l1, ex_l2, ex_l3, ex_int, ex_bool, ex_some, ex_va, ex_ow, ex_sc, ex_list, ex_tuple, at0, at1, at2, at3, ln0, ln1, ln2, ln3, ln4, ln5, ln6, List.cons_append, List.nil_append, List.getElem?_cons_zero, List.getElem?_cons_succ, List.set_cons_zero, List.set_cons_succ, List.length_cons, List.length_nil, true_and, and_true, true_implies, forall_const, Bool.true_eq_false, Bool.false_eq_true, false_implies, decide_eq_true_eq, decide_eq_false_iff_not, Int.sub_self, Int.sub_zero, Int.reduceSub, Int.reduceAdd, Int.reduceNeg, Int.reduceEq, Int.reduceLT, Int.reduceLE, Int.reduceNe, if_true, if_false, reduceIte, decide_true, decide_false, decide_not, Bool.not_true, Bool.not_false, Bool.not_eq_true, Bool.not_eq_false, aIsi, show isiD "tuple" (.int i) = false from rfl, Lr.isRule] at q ⊢
    exact q
  | .bool i, hd, q =>
    simp only [List.map_cons, List.map_nil, aSeq, aLc, iL, iT, iR1, iE, iZ, aSlT, aSlL, aNoP, aPt, wipeE, aIfS, aT, aB, aBO, aC, aSet, aRet, aTup, aLst, aO, dCons, dNil, aCB, aCBO, aOr, aAnd, aNot, aIf, aAndV, aOrV, aNotV, aSkip, aAsg, aAug, ex_vaint, tgN, aCall, gConsA, gNilA, gScA, gTownA, aPar2, aPar3, aV_eq, dI_i, dIC_i, dIx_t, dIx_l, dMin2_i, dMax2_i, dSumT_2, dLen_l, dLen_t, dEq_i, dNe_i, dEq_ni, dEq_in, dIs_i, dIs_n, dIsn_i, dIsn_n, dCat_l, dCatT_t, dListO_l, dListO_t, dTupleO_l, dTupleO_t, tgs2, tgs0, tgt, ite_t, ite_f, ex_l1i, ex_l1l, ex_l2l, ex_l1, ex_l2, ex_l3, ex_int, ex_bool, ex_some, ex_va, ex_ow, ex_sc, ex_list, ex_tuple, at0, at1, at2, at3, ln0, ln1, ln2, ln3, ln4, ln5, ln6, List.cons_append, List.nil_append, List.getElem?_cons_zero, List.getElem?_cons_succ, List.set_cons_zero, List.set_cons_succ, List.length_cons, List.length_nil, true_and, and_true, true_implies, forall_const, Bool.true_eq_false, Bool.false_eq_true, false_implies, decide_eq_true_eq, decide_eq_false_iff_not, Int.sub_self, Int.sub_zero, Int.reduceSub, Int.reduceAdd, Int.reduceNeg, Int.reduceEq, Int.reduceLT, Int.reduceLE, Int.reduceNe, if_true, if_false, reduceIte, decide_true, decide_false, decide_not, Bool.not_true, Bool.not_false, Bool.not_eq_true, Bool.not_eq_false, aIsi, show isiD "tuple" (.bool i) = false from rfl, Lr.isRule] at q ⊢
    exact q
  | .none, hd, q =>
    simp only [List.map_cons, List.map_nil, aSeq, aLc, iL, iT, iR1, iE, iZ, aSlT, aSlL, aNoP, aPt, wipeE, aIfS, aT, aB, aBO, aC, aSet, aRet, aTup, aLst, aO, dCons, dNil, aCB, aCBO, aOr, aAnd, aNot, aIf, aAndV, aOrV, aNotV, aSkip, aAsg, aAug, ex_vaint, tgN, aCall, gConsA, gNilA, gScA, gTownA, aPar2, aPar3, aV_eq, dI_i, dIC_i, dIx_t, dIx_l, dMin2_i, dMax2_i, dSumT_2, dLen_l, dLen_t, dEq_i, dNe_i, dEq_ni, dEq_in, dIs_i, dIs_n, dIsn_i, dIsn_n, dCat_l, dCatT_t, dListO_l, dListO_t, dTupleO_l, dTupleO_t, tgs2, tgs0, tgt, ite_t, ite_f, ex_l1i, ex_l1l, ex_l2l, ex_l1, ex_l2, ex_l3, ex_int, ex_bool, ex_some, ex_va, ex_ow, ex_sc, ex_list, ex_tuple, at0, at1, at2, at3, ln0, ln1, ln2, ln3, ln4, ln5, ln6, List.cons_append, List.nil_append, List.getElem?_cons_zero, List.getElem?_cons_succ, List.set_cons_zero, List.set_cons_succ, List.length_cons, List.length_nil, true_and, and_true, true_implies, forall_const, Bool.true_eq_false, Bool.false_eq_true, false_implies, decide_eq_true_eq, decide_eq_false_iff_not, Int.sub_self, Int.sub_zero, Int.reduceSub, Int.reduceAdd, Int.reduceNeg, Int.reduceEq, Int.reduceLT, Int.reduceLE, Int.reduceNe, if_true, if_false, reduceIte, decide_true, decide_false, decide_not, Bool.not_true, Bool.not_false, Bool.not_eq_true, Bool.not_eq_false, aIsi, show isiD "tuple" .none = false from rfl, Lr.isRule] at q ⊢
    exact q
  | .str i, hd, q =>
    simp only [List.map_cons, List.map_nil, aSeq, aLc, iL, iT, iR1, iE, iZ, aSlT, aSlL, aNoP, aPt, wipeE, aIfS, aT, aB, aBO, aC, aSet, aRet, aTup, aLst, aO, dCons, dNil, aCB, aCBO, aOr, aAnd, aNot, aIf, aAndV, aOrV, aNotV, aSkip, aAsg, aAug, ex_vaint, tgN, aCall, gConsA, gNilA, gScA, gTownA, aPar2, aPar3, aV_eq, dI_i, dIC_i, dIx_t, dIx_l, dMin2_i, dMax2_i, dSumT_2, dLen_l, dLen_t, dEq_i, dNe_i, dEq_ni, dEq_in, dIs_i, dIs_n, dIsn_i, dIsn_n, dCat_l, dCatT_t, dListO_l, dListO_t, dTupleO_l, dTupleO_t, tgs2, tgs0, tgt, ite_t, ite_f, ex_l1i, ex_l1l, ex_l2l, ex_l1, ex_l2, ex_l3, ex_int, ex_bool, ex_some, ex_va, ex_ow, ex_sc, ex_list, ex_tuple, at0, at1, at2, at3, ln0, ln1, ln2, ln3, ln4, ln5, ln6, List.cons_append, List.nil_append, List.getElem?_cons_zero, List.getElem?_cons_succ, List.set_cons_zero, List.set_cons_succ, List.length_cons, List.length_nil, true_and, and_true, true_implies, forall_const, Bool.true_eq_false, Bool.false_eq_true, false_implies, decide_eq_true_eq, decide_eq_false_iff_not, Int.sub_self, Int.sub_zero, Int.reduceSub, Int.reduceAdd, Int.reduceNeg, Int.reduceEq, Int.reduceLT, Int.reduceLE, Int.reduceNe, if_true, if_false, reduceIte, decide_true, decide_false, decide_not, Bool.not_true, Bool.not_false, Bool.not_eq_true, Bool.not_eq_false, aIsi, show isiD "tuple" (.str i) = false from rfl, Lr.isRule] at q ⊢
    exact q
  | .list i, hd, q =>
    simp only [List.map_cons, List.map_nil, aSeq, aLc, iL, iT, iR1, iE, iZ, aSlT, aSlL, aNoP, aPt, wipeE, aIfS, aT, aB, aBO, aC, aSet, aRet, aTup, aLst, aO, dCons, dNil, aCB, aCBO, aOr, aAnd, aNot, aIf, aAndV, aOrV, aNotV, aSkip, aAsg, aAug, ex_vaint, tgN, aCall, gConsA, gNilA, gScA, gTownA, aPar2, aPar3, aV_eq, dI_i, dIC_i, dIx_t, dIx_l, dMin2_i, dMax2_i, dSumT_2, dLen_l, dLen_t, dEq_i, dNe_i, dEq_ni, dEq_in, dIs_i, dIs_n, dIsn_i, dIsn_n, dCat_l, dCatT_t, dListO_l, dListO_t, dTupleO_l, dTupleO_t, tgs2, tgs0, tgt, ite_t, ite_f, ex_l1i, ex_l1l, ex_l2l, ex_l1, ex_l2, ex_l3, ex_int, ex_bool, ex_some, ex_va, ex_ow, ex_sc, ex_list, ex_tuple, at0, at1, at2, at3, ln0, ln1, ln2, ln3, ln4, ln5, ln6, List.cons_append, List.nil_append, List.getElem?_cons_zero, List.getElem?_cons_succ, List.set_cons_zero, List.set_cons_succ, List.length_cons, List.length_nil, true_and, and_true, true_implies, forall_const, Bool.true_eq_false, Bool.false_eq_true, false_implies, decide_eq_true_eq, decide_eq_false_iff_not, Int.sub_self, Int.sub_zero, Int.reduceSub, Int.reduceAdd, Int.reduceNeg, Int.reduceEq, Int.reduceLT, Int.reduceLE, Int.reduceNe, if_true, if_false, reduceIte, decide_true, decide_false, decide_not, Bool.not_true, Bool.not_false, Bool.not_eq_true, Bool.not_eq_false, aIsi, show isiD "tuple" (.list i) = false from rfl, Lr.isRule] at q ⊢
    exact q
  | .dict i, hd, q =>
    simp only [List.map_cons, List.map_nil, aSeq, aLc, iL, iT, iR1, iE, iZ, aSlT, aSlL, aNoP, aPt, wipeE, aIfS, aT, aB, aBO, aC, aSet, aRet, aTup, aLst, aO, dCons, dNil, aCB, aCBO, aOr, aAnd, aNot, aIf, aAndV, aOrV, aNotV, aSkip, aAsg, aAug, ex_vaint, tgN, aCall, gConsA, gNilA, gScA, gTownA, aPar2, aPar3, aV_eq, dI_i, dIC_i, dIx_t, dIx_l, dMin2_i, dMax2_i, dSumT_2, dLen_l, dLen_t, dEq_i, dNe_i, dEq_ni, dEq_in, dIs_i, dIs_n, dIsn_i, dIsn_n, dCat_l, dCatT_t, dListO_l, dListO_t, dTupleO_l, dTupleO_t, tgs2, tgs0, tgt, ite_t, ite_f, ex_l1i, ex_l1l, ex_l2l, ex_l1, ex_l2, ex_l3, ex_int, ex_bool, ex_some, ex_va, ex_ow, ex_sc, ex_list, ex_tuple, at0, at1, at2, at3, ln0, ln1, ln2, ln3, ln4, ln5, ln6, List.cons_append, List.nil_append, List.getElem?_cons_zero, List.getElem?_cons_succ, List.set_cons_zero, List.set_cons_succ, List.length_cons, List.length_nil, true_and, and_true, true_implies, forall_const, Bool.true_eq_false, Bool.false_eq_true, false_implies, decide_eq_true_eq, decide_eq_false_iff_not, Int.sub_self, Int.sub_zero, Int.reduceSub, Int.reduceAdd, Int.reduceNeg, Int.reduceEq, Int.reduceLT, Int.reduceLE, Int.reduceNe, if_true, if_false, reduceIte, decide_true, decide_false, decide_not, Bool.not_true, Bool.not_false, Bool.not_eq_true, Bool.not_eq_false, aIsi, show isiD "tuple" (.dict i) = false from rfl, Lr.isRule] at q ⊢
    exact q

theorem t__law_draw {f : Addr} {fd : FuncData}  (z_len : mg "len" = none) (F : Fun K "_law_draw" "_law_draw" s__law_draw f fd) (gm : mg "_law_draw" = some (.ref f)) (hb : Binds K fd ["_law_script", "_law_town", "_law_many"] []) : Cl P w K mg base (k + 1) "_law_draw" 3 Lr.W_draw := by
  have nd := sc__law_draw.nd
  refine def_ok (N := ["_law_script", "_law_town", "_law_many", "_law_one", "_law_at", "_law_mixed"]) (ps := ["_law_script", "_law_town", "_law_many"]) [Sl.un, Sl.un, Sl.un] F sc__law_draw gm hb ⟨_, fun cdv A outer s H E hr => have hu := hr.units; have hu2 := units65 hr
    (jss_cons (js_if (jt_gt (j_tw1 1) j_int) (jss_cons (js_set 3 nd (j_mod (j_tw1 1) (jv 2)))
  (jss_cons (js_setTw1 1 (j_fdiv (j_tw1 1) (jv 2)))
  (jss_one (js_ret (jv 3))))) jss_nil)
  (jss_cons (js_set 4 nd (j_tw0 1))
  (jss_cons (js_augTw0 1)
  (jss_cons (js_if (jt_scNil 0 hu) (jss_one (js_ret (j_mod (jv 4) (jv 2)))) jss_nil)
  (jss_cons (js_if (JW.t (jw_and (jt_lt (jv 4) (j_scLen 0 z_len PySem.boot_len)) (jw_and1 (jt_ge (j_scIx 0 (jv 4)) (j_pow j_int j_int))))) (jss_cons (js_setTw1 1 (j_mod (j_fdiv (j_scIx 0 (jv 4)) (jv 2)) (j_mulW (j_pow j_int j_int) (j_pow j_int j_int))))
  (jss_one (js_ret (j_mod (j_scIx 0 (jv 4)) (jv 2))))) jss_nil)
  (jss_cons (js_set 5 nd (j_mod (j_add (j_add (j_mulW (j_scIx 0 (j_mod (jv 4) (j_scLen 0 z_len PySem.boot_len))) j_int) (j_mulW j_int (jv 4))) j_int) j_int))
  (jss_one (js_ret (j_mod (j_mod (j_mod (j_pow (jv 5) j_int) j_int) j_int) (jv 2)))))))))), fun as Q hl hW => ?_⟩
  obtain ⟨ns, many, rfl, h0, h1, q⟩ := hW
  have hmod : ∀ x : Int, Q (.int (x % many)) := fun x => q _ (Int.emod_nonneg x (by omega)) (Int.emod_lt_of_pos x h0)
  have hdiv : ∀ x : Int, CDiv x many := fun x => ⟨h0, by omega⟩
  simp only [List.map_cons, List.map_nil, aSeq, aLc, iL, iT, iR1, iE, iZ, aSlT, aSlL, aNoP, aPt, wipeE, aIfS, aT, aB, aBO, aC, aSet, aRet, aTup, aLst, aO, dCons, dNil, aCB, aCBO, aOr, aAnd, aNot, aIf, aAndV, aOrV, aNotV, aSkip, aAsg, aAug, ex_vaint, tgN, aCall, gConsA, gNilA, gScA, gTownA, aPar2, aPar3, aV_eq, dI_i, dIC_i, dIx_t, dIx_l, dMin2_i, dMax2_i, dSumT_2, dLen_l, dLen_t, dEq_i, dNe_i, dEq_ni, dEq_in, dIs_i, dIs_n, dIsn_i, dIsn_n, dCat_l, dCatT_t, dListO_l, dListO_t, dTupleO_l, dTupleO_t, tgs2, tgs0, tgt, ite_t, ite_f, ex_l1i, ex_l1l, ex_l2l, ex_l1, ex_l2, ex_l3, ex_int, ex_bool, ex_some, ex_va, ex_ow, ex_sc, ex_list, ex_tuple, at0, at1, at2, at3, ln0, ln1, ln2, ln3, ln4, ln5, ln6, List.cons_append, List.nil_append, List.getElem?_cons_zero, List.getElem?_cons_succ, List.set_cons_zero, List.set_cons_succ, List.length_cons, List.length_nil, true_and, and_true, true_implies, forall_const, Bool.true_eq_false, Bool.false_eq_true, false_implies, decide_eq_true_eq, decide_eq_false_iff_not, Int.sub_self, Int.sub_zero, Int.reduceSub, Int.reduceAdd, Int.reduceNeg, Int.reduceEq, Int.reduceLT, Int.reduceLE, Int.reduceNe, if_true, if_false, reduceIte, decide_true, decide_false, decide_not, Bool.not_true, Bool.not_false, Bool.not_eq_true, Bool.not_eq_false, aTw0, aTw1, aSetTw1, aAugTw0, aScLen, aScIx, aScNil, h0]
  have p120 : (0 : Int) < 10 ^ Int.toNat 60 * 10 ^ Int.toNat 60 := by
    have e : (60 : Int).toNat = 60 := rfl
    rw [e]
    decide
  have pow5 : ∀ x : Int, CPow (x % 2147483647) 5 := fun x => by
    have a1 := Int.emod_nonneg x (show (2147483647 : Int) ≠ 0 by decide)
    have a2 := Int.emod_lt_of_pos x (show (0 : Int) < 2147483647 by decide)
    exact ⟨by decide, by decide, by omega⟩
  have last : ∀ p : Nat, ¬ ns = [] → (0 : Int) < (ns.length : Int) ∧ ∃ k m, PyData.int ((p : Int) % (ns.length : Int)) = PyData.int k ∧ atI ns k = some m ∧ IntMulOk m 1103515245 ∧ IntMulOk 7919 (p : Int) ∧ CPow ((m * 1103515245 + 7919 * (p : Int) + 12345) % 2147483647) 5 ∧
      Q (.int (((m * 1103515245 + 7919 * (p : Int) + 12345) % 2147483647) ^ Int.toNat 5 % 2147483647 % 999983 % many)) := fun p hn => by
    have hl : (0 : Int) < (ns.length : Int) := by
      cases ns with
      | nil => exact absurd rfl hn
      | cons x r => rw [List.length_cons]; omega
    obtain ⟨m, e, _⟩ := Lr.at_ex (xs := ns) (Int.emod_nonneg (p : Int) (by omega)) (Int.emod_lt_of_pos (p : Int) hl)
    exact ⟨hl, _, m, rfl, e, Lr.mulOk1 m, Lr.mulOk2 p, pow5 _, hmod _⟩
  intro q1
  refine ⟨fun _ q2 q3 => ⟨hdiv _, hmod _⟩, fun _ p => ⟨fun _ => hmod _, fun hn => ⟨fun hp => ?_, fun _ => last p hn⟩⟩⟩
  obtain ⟨m, e, _⟩ := Lr.at_ex (xs := ns) (k := (p : Int)) (by omega) hp
  exact ⟨_, m, rfl, e, Lr.powOk18, fun _ => ⟨_, m, rfl, e, hdiv _, Lr.powOk60, Lr.powOk60, Lr.mulOk3, p120, _, m, rfl, e, hmod _⟩, fun _ => last p hn⟩

theorem t__law_pick {f : Addr} {fd : FuncData} (c__law_draw : Cl P w K mg base k "_law_draw" 3 Lr.W_draw) (z_len : mg "len" = none) (F : Fun K "_law_pick" "_law_pick" s__law_pick f fd) (gm : mg "_law_pick" = some (.ref f)) (hb : Binds K fd ["_law_script", "_law_town", "_law_some"] []) : Cl P w K mg base (k + 1) "_law_pick" 3 Lr.W_pick := by
  have nd := sc__law_pick.nd
  refine def_ok (N := ["_law_script", "_law_town", "_law_some"]) (ps := ["_law_script", "_law_town", "_law_some"]) [] F sc__law_pick gm hb ⟨_, fun cdv A outer s H E hr => have hu := hr.units; have hu2 := units65 hr
    (jss_one (js_ret (j_ix (jv 2) (j_call c__law_draw hr (ja_sc 0 (ja_town 1 (ja_cons (j_bi call_len_seq sc_len z_len PySem.boot_len (jd_cons (jv 2) jd_nil)) ja_nil))))))), fun as Q hl hW => ?_⟩
  obtain ⟨ns, xs, rfl, h0, h1, q⟩ := hW
  have hl : (0 : Int) < (xs.length : Int) := by
    cases xs with
    | nil => exact absurd rfl h0
    | cons x r => rw [List.length_cons]; omega
  have hl2 : (xs.length : Int) ≤ 1000 := by omega
  simp only [List.map_cons, List.map_nil, aSeq, aLc, iL, iT, iR1, iE, iZ, aSlT, aSlL, aNoP, aPt, wipeE, aIfS, aT, aB, aBO, aC, aSet, aRet, aTup, aLst, aO, dCons, dNil, aCB, aCBO, aOr, aAnd, aNot, aIf, aAndV, aOrV, aNotV, aSkip, aAsg, aAug, ex_vaint, tgN, aCall, gConsA, gNilA, gScA, gTownA, aPar2, aPar3, aV_eq, dI_i, dIC_i, dIx_t, dIx_l, dMin2_i, dMax2_i, dSumT_2, dLen_l, dLen_t, dEq_i, dNe_i, dEq_ni, dEq_in, dIs_i, dIs_n, dIsn_i, dIsn_n, dCat_l, dCatT_t, dListO_l, dListO_t, dTupleO_l, dTupleO_t, tgs2, tgs0, tgt, ite_t, ite_f, ex_l1i, ex_l1l, ex_l2l, ex_l1, ex_l2, ex_l3, ex_int, ex_bool, ex_some, ex_va, ex_ow, ex_sc, ex_list, ex_tuple, at0, at1, at2, at3, ln0, ln1, ln2, ln3, ln4, ln5, ln6, List.cons_append, List.nil_append, List.getElem?_cons_zero, List.getElem?_cons_succ, List.set_cons_zero, List.set_cons_succ, List.length_cons, List.length_nil, true_and, and_true, true_implies, forall_const, Bool.true_eq_false, Bool.false_eq_true, false_implies, decide_eq_true_eq, decide_eq_false_iff_not, Int.sub_self, Int.sub_zero, Int.reduceSub, Int.reduceAdd, Int.reduceNeg, Int.reduceEq, Int.reduceLT, Int.reduceLE, Int.reduceNe, if_true, if_false, reduceIte, decide_true, decide_false, decide_not, Bool.not_true, Bool.not_false, Bool.not_eq_true, Bool.not_eq_false, Lr.W_draw_i hl hl2]
  intro n n0 n1
  obtain ⟨m, e, hm⟩ := Lr.at_ex (xs := xs) n0 n1
  exact ⟨m, e, q m hm⟩

theorem t__law_rule {f : Addr} {fd : FuncData} (c__law_pick : Cl P w K mg base k "_law_pick" 3 Lr.W_pick) (c__law_draw : Cl P w K mg base k "_law_draw" 3 Lr.W_draw) (F : Fun K "_law_rule" "_law_rule" s__law_rule f fd) (gm : mg "_law_rule" = some (.ref f)) (hb : Binds K fd ["_law_script", "_law_town"] []) : Cl P w K mg base (k + 1) "_law_rule" 2 Lr.W_drule := by
  have nd := sc__law_rule.nd
  refine def_ok (N := ["_law_script", "_law_town", "_law_word", "_law_numbers"]) (ps := ["_law_script", "_law_town"]) [Sl.un, Sl.un] F sc__law_rule gm hb ⟨_, fun cdv A outer s H E hr => have hu := hr.units; have hu2 := units65 hr
    (jss_cons (js_set 2 nd (j_call c__law_pick hr (ja_sc 0 (ja_town 1 (ja_cons (JO.je (jo_lst (jd_cons j_str (jd_cons j_str (jd_cons j_str (jd_cons j_str (jd_cons j_str (jd_cons j_str jd_nil)))))))) ja_nil)))))
  (jss_cons (js_set 3 nd (je_tup (jd_cons (j_add j_int (j_call c__law_draw hr (ja_sc 0 (ja_town 1 (ja_cons j_int ja_nil))))) (jd_cons (j_add j_int (j_call c__law_draw hr (ja_sc 0 (ja_town 1 (ja_cons j_int ja_nil))))) jd_nil))))
  (jss_one (js_ret (j_catT (je_tup (jd_cons (jv 2) jd_nil)) (j_slT (jv 3) jp_none (jp_some (je_if (jt_in (jv 2) (je_tup (jd_cons j_str (jd_cons j_str jd_nil)))) j_int j_int)))))))), fun as Q hl hW => ?_⟩
  obtain ⟨ns, rfl, q⟩ := hW
  simp only [List.map_cons, List.map_nil, aSeq, aLc, iL, iT, iR1, iE, iZ, aSlT, aSlL, aNoP, aPt, wipeE, aIfS, aT, aB, aBO, aC, aSet, aRet, aTup, aLst, aO, dCons, dNil, aCB, aCBO, aOr, aAnd, aNot, aIf, aAndV, aOrV, aNotV, aSkip, aAsg, aAug, ex_vaint, tgN, aCall, gConsA, gNilA, gScA, gTownA, aPar2, aPar3, aV_eq, dI_i, dIC_i, dIx_t, dIx_l, dMin2_i, dMax2_i, dSumT_2, dLen_l, dLen_t, dEq_i, dNe_i, dEq_ni, dEq_in, dIs_i, dIs_n, dIsn_i, dIsn_n, dCat_l, dCatT_t, dListO_l, dListO_t, dTupleO_l, dTupleO_t, tgs2, tgs0, tgt, ite_t, ite_f, ex_l1i, ex_l1l, ex_l2l, ex_l1, ex_l2, ex_l3, ex_int, ex_bool, ex_some, ex_va, ex_ow, ex_sc, ex_list, ex_tuple, at0, at1, at2, at3, ln0, ln1, ln2, ln3, ln4, ln5, ln6, List.cons_append, List.nil_append, List.getElem?_cons_zero, List.getElem?_cons_succ, List.set_cons_zero, List.set_cons_succ, List.length_cons, List.length_nil, true_and, and_true, true_implies, forall_const, Bool.true_eq_false, Bool.false_eq_true, false_implies, decide_eq_true_eq, decide_eq_false_iff_not, Int.sub_self, Int.sub_zero, Int.reduceSub, Int.reduceAdd, Int.reduceNeg, Int.reduceEq, Int.reduceLT, Int.reduceLE, Int.reduceNe, if_true, if_false, reduceIte, decide_true, decide_false, decide_not, Bool.not_true, Bool.not_false, Bool.not_eq_true, Bool.not_eq_false, Lr.W_draw_4, Lr.W_pick_i (show (PyData.str (Str.ofString "asked") :: [PyData.str (Str.ofString "clock"), .str (Str.ofString "due"), .str (Str.ofString "empty"), .str (Str.ofString "gap"), .str (Str.ofString "longer")]).length ≤ 1000 by simp)]
  intro y hy n n0 n1 m m0 m1
  have hn : Lr.N4 (1 + n) := ⟨by omega, by omega⟩
  have hm : Lr.N4 (1 + m) := ⟨by omega, by omega⟩
  simp only [List.mem_cons, List.not_mem_nil, or_false] at hy
  rcases hy with rfl | rfl | rfl | rfl | rfl | rfl
  all_goals simp only [List.map_cons, List.map_nil, aSeq, aLc, iL, iT, iR1, iE, iZ, aSlT, aSlL, aNoP, aPt, wipeE, aIfS, aT, aB, aBO, aC, aSet, aRet, aTup, aLst, aO, dCons, dNil, aCB, aCBO, aOr, aAnd, aNot, aIf, aAndV, aOrV, aNotV, aSkip, aAsg, aAug, ex_vaint, tgN, aCall, gConsA, gNilA, gScA, gTownA, aPar2, aPar3, aV_eq, dI_i, dIC_i, dIx_t, dIx_l, dMin2_i, dMax2_i, dSumT_2, dLen_l, dLen_t, dEq_i, dNe_i, dEq_ni, dEq_in, dIs_i, dIs_n, dIsn_i, dIsn_n, dCat_l, dCatT_t, dListO_l, dListO_t, dTupleO_l, dTupleO_t, tgs2, tgs0, tgt, ite_t, ite_f, ex_l1i, ex_l1l, ex_l2l, ex_l1, ex_l2, ex_l3, ex_int, ex_bool, ex_some, ex_va, ex_ow, ex_sc, ex_list, ex_tuple, at0, at1, at2, at3, ln0, ln1, ln2, ln3, ln4, ln5, ln6, List.cons_append, List.nil_append, List.getElem?_cons_zero, List.getElem?_cons_succ, List.set_cons_zero, List.set_cons_succ, List.length_cons, List.length_nil, true_and, and_true, true_implies, forall_const, Bool.true_eq_false, Bool.false_eq_true, false_implies, decide_eq_true_eq, decide_eq_false_iff_not, Int.sub_self, Int.sub_zero, Int.reduceSub, Int.reduceAdd, Int.reduceNeg, Int.reduceEq, Int.reduceLT, Int.reduceLE, Int.reduceNe, if_true, if_false, reduceIte, decide_true, decide_false, decide_not, Bool.not_true, Bool.not_false, Bool.not_eq_true, Bool.not_eq_false, Lr.wi_asked, Lr.wi_clock, Lr.wi_due, Lr.wi_empty, Lr.wi_gap, Lr.wi_longer, cut2_1, cut2_2]
  · exact q (.asked (1 + n)) hn
  · exact q (.clock (1 + n) (1 + m)) ⟨hn, hm⟩
  · exact q (.due (1 + n)) hn
  · exact q (.empty (1 + n)) hn
  · exact q (.gap (1 + n) (1 + m)) ⟨hn, hm⟩
  · exact q (.longer (1 + n)) hn

theorem t__law_comings {f : Addr} {fd : FuncData} (c__law_draw : Cl P w K mg base k "_law_draw" 3 Lr.W_draw) (z_range : mg "range" = none) (F : Fun K "_law_comings" "_law_comings" s__law_comings f fd) (gm : mg "_law_comings" = some (.ref f)) (hb : Binds K fd ["_law_script", "_law_town", "_law_most"] []) : Cl P w K mg base (k + 1) "_law_comings" 3 Lr.W_dcom := by
  have nd := sc__law_comings.nd
  refine def_ok (N := ["_law_script", "_law_town", "_law_most", "_law_busy", "_law_row", "_law_k", "_law_coming"]) (ps := ["_law_script", "_law_town", "_law_most"]) [Sl.un, Sl.un, Sl.un, Sl.un] F sc__law_comings gm hb ⟨_, fun cdv A outer s H E hr => have hu := hr.units; have hu2 := units65 hr
    (jss_cons (js_par2O 3 4 rfl nd (j_call c__law_draw hr (ja_sc 0 (ja_town 1 (ja_cons j_int ja_nil)))) (jo_lst jd_nil))
  (jss_cons (js_for PassesOwn.never rfl (ji_range1 z_range (jd_cons (j_call c__law_draw hr (ja_sc 0 (ja_town 1 (ja_cons (j_add (jv 2) j_int) ja_nil)))) jd_nil)) (jg_name 5 nd)
  (jss_cons (js_set 6 nd (j_call c__law_draw hr (ja_sc 0 (ja_town 1 (ja_cons j_int ja_nil)))))
  (jss_one (js_app 4 (je_if (JW.t (jw_or (jt_lt (jv 3) j_int) (jw_or1 (jt_eq hu (j_call c__law_draw hr (ja_sc 0 (ja_town 1 (ja_cons j_int ja_nil)))) j_int)))) (jv 6) j_int)))))
  (jss_frz 4 (jss_one (js_ret (jv 4)))))), fun as Q hl hW => ?_⟩
  obtain ⟨ns, most, rfl, h0, h1, q⟩ := hW
  have hm : (0 : Int) < most + 1 := by omega
  have hm2 : most + 1 ≤ 1000 := by omega
  simp only [List.map_cons, List.map_nil, aSeq, aLc, iL, iT, iR1, iE, iZ, aSlT, aSlL, aNoP, aPt, wipeE, aIfS, aT, aB, aBO, aC, aSet, aRet, aTup, aLst, aO, dCons, dNil, aCB, aCBO, aOr, aAnd, aNot, aIf, aAndV, aOrV, aNotV, aSkip, aAsg, aAug, ex_vaint, tgN, aCall, gConsA, gNilA, gScA, gTownA, aPar2, aPar3, aV_eq, dI_i, dIC_i, dIx_t, dIx_l, dMin2_i, dMax2_i, dSumT_2, dLen_l, dLen_t, dEq_i, dNe_i, dEq_ni, dEq_in, dIs_i, dIs_n, dIsn_i, dIsn_n, dCat_l, dCatT_t, dListO_l, dListO_t, dTupleO_l, dTupleO_t, tgs2, tgs0, tgt, ite_t, ite_f, ex_l1i, ex_l1l, ex_l2l, ex_l1, ex_l2, ex_l3, ex_int, ex_bool, ex_some, ex_va, ex_ow, ex_sc, ex_list, ex_tuple, at0, at1, at2, at3, ln0, ln1, ln2, ln3, ln4, ln5, ln6, List.cons_append, List.nil_append, List.getElem?_cons_zero, List.getElem?_cons_succ, List.set_cons_zero, List.set_cons_succ, List.length_cons, List.length_nil, true_and, and_true, true_implies, forall_const, Bool.true_eq_false, Bool.false_eq_true, false_implies, decide_eq_true_eq, decide_eq_false_iff_not, Int.sub_self, Int.sub_zero, Int.reduceSub, Int.reduceAdd, Int.reduceNeg, Int.reduceEq, Int.reduceLT, Int.reduceLE, Int.reduceNe, if_true, if_false, reduceIte, decide_true, decide_false, decide_not, Bool.not_true, Bool.not_false, Bool.not_eq_true, Bool.not_eq_false, aPar2O, aFor, iR1, Lr.W_draw_3, Lr.W_draw_i hm hm2]
  intro busy b0 b1 n n0 n1
  refine ⟨by omega, by omega, ?_⟩
  refine loop_inv (fun ds env => ∃ (row : List Int) (x5 x6 : Sl), env = [.sc ns, .tw, .va (.int most), .va (.int busy), .ow (row.map PyData.int), x5, x6] ∧ row.length + ds.length = n.toNat ∧ ∀ c ∈ row, Lr.ComOk c) ?_ ?_ _ _ ⟨[], .un, .un, rfl, by simp, fun c hc => by cases hc⟩
  · rintro d ds env N ⟨row, x5, x6, rfl, hl, hc⟩ hN
    rw [List.length_cons] at hl
    simp only [List.map_cons, List.map_nil, aSeq, aLc, iL, iT, iR1, iE, iZ, aSlT, aSlL, aNoP, aPt, wipeE, aIfS, aT, aB, aBO, aC, aSet, aRet, aTup, aLst, aO, dCons, dNil, aCB, aCBO, aOr, aAnd, aNot, aIf, aAndV, aOrV, aNotV, aSkip, aAsg, aAug, ex_vaint, tgN, aCall, gConsA, gNilA, gScA, gTownA, aPar2, aPar3, aV_eq, dI_i, dIC_i, dIx_t, dIx_l, dMin2_i, dMax2_i, dSumT_2, dLen_l, dLen_t, dEq_i, dNe_i, dEq_ni, dEq_in, dIs_i, dIs_n, dIsn_i, dIsn_n, dCat_l, dCatT_t, dListO_l, dListO_t, dTupleO_l, dTupleO_t, tgs2, tgs0, tgt, ite_t, ite_f, ex_l1i, ex_l1l, ex_l2l, ex_l1, ex_l2, ex_l3, ex_int, ex_bool, ex_some, ex_va, ex_ow, ex_sc, ex_list, ex_tuple, at0, at1, at2, at3, ln0, ln1, ln2, ln3, ln4, ln5, ln6, List.cons_append, List.nil_append, List.getElem?_cons_zero, List.getElem?_cons_succ, List.set_cons_zero, List.set_cons_succ, List.length_cons, List.length_nil, true_and, and_true, true_implies, forall_const, Bool.true_eq_false, Bool.false_eq_true, false_implies, decide_eq_true_eq, decide_eq_false_iff_not, Int.sub_self, Int.sub_zero, Int.reduceSub, Int.reduceAdd, Int.reduceNeg, Int.reduceEq, Int.reduceLT, Int.reduceLE, Int.reduceNe, if_true, if_false, reduceIte, decide_true, decide_false, decide_not, Bool.not_true, Bool.not_false, Bool.not_eq_true, Bool.not_eq_false, Lr.W_draw_2, Lr.W_draw_4, aApp, ex_ow]
    have fin : ∀ c, Lr.ComOk c → ∀ z : Int, (row.map PyData.int).length < lineD ∧ N [.sc ns, .tw, .va (.int most), .va (.int busy), .ow (row.map PyData.int ++ [.int c]), .va d, .va (.int z)] := fun c hk z => by
      refine ⟨lineLt (by rw [List.length_map]; omega), hN _ ⟨row ++ [c], _, _, by rw [List.map_append]; rfl, by rw [List.length_append, List.length_cons, List.length_nil]; omega, fun e he => ?_⟩⟩
      rcases List.mem_append.mp he with h | h
      · exact hc e h
      · rw [List.mem_singleton.mp h]; exact hk
    intro c c0 c1
    have hk : Lr.ComOk c := ⟨c0, by omega⟩
    have hk3 : Lr.ComOk 3 := ⟨by decide, by decide⟩
    exact ⟨fun _ => fin c hk c, fun _ n _ _ => ⟨fun _ => fin c hk c, fun _ => fin 3 hk3 c⟩⟩
  · rintro env ⟨row, x5, x6, rfl, hl, hc⟩
    simp only [List.map_cons, List.map_nil, aSeq, aLc, iL, iT, iR1, iE, iZ, aSlT, aSlL, aNoP, aPt, wipeE, aIfS, aT, aB, aBO, aC, aSet, aRet, aTup, aLst, aO, dCons, dNil, aCB, aCBO, aOr, aAnd, aNot, aIf, aAndV, aOrV, aNotV, aSkip, aAsg, aAug, ex_vaint, tgN, aCall, gConsA, gNilA, gScA, gTownA, aPar2, aPar3, aV_eq, dI_i, dIC_i, dIx_t, dIx_l, dMin2_i, dMax2_i, dSumT_2, dLen_l, dLen_t, dEq_i, dNe_i, dEq_ni, dEq_in, dIs_i, dIs_n, dIsn_i, dIsn_n, dCat_l, dCatT_t, dListO_l, dListO_t, dTupleO_l, dTupleO_t, tgs2, tgs0, tgt, ite_t, ite_f, ex_l1i, ex_l1l, ex_l2l, ex_l1, ex_l2, ex_l3, ex_int, ex_bool, ex_some, ex_va, ex_ow, ex_sc, ex_list, ex_tuple, at0, at1, at2, at3, ln0, ln1, ln2, ln3, ln4, ln5, ln6, List.cons_append, List.nil_append, List.getElem?_cons_zero, List.getElem?_cons_succ, List.set_cons_zero, List.set_cons_succ, List.length_cons, List.length_nil, true_and, and_true, true_implies, forall_const, Bool.true_eq_false, Bool.false_eq_true, false_implies, decide_eq_true_eq, decide_eq_false_iff_not, Int.sub_self, Int.sub_zero, Int.reduceSub, Int.reduceAdd, Int.reduceNeg, Int.reduceEq, Int.reduceLT, Int.reduceLE, Int.reduceNe, if_true, if_false, reduceIte, decide_true, decide_false, decide_not, Bool.not_true, Bool.not_false, Bool.not_eq_true, Bool.not_eq_false, aFrz, ex_ow]
    rw [List.length_nil] at hl
    exact q row (by omega) hc

theorem x__check_string {f : Addr} {fd : FuncData}  (z_isinstance : mg "isinstance" = none) (z_str : mg "str" = none) (E_ParseError : ExcF K mg "ParseError" C_ParseError) (F : Fun K "_check_string" "_check_string" s__check_string f fd) (gm : mg "_check_string" = some (.ref f)) (hb : L2.Binds K fd ["text"] []) : ClX P w K mg base (k + 1) "_check_string" 1 (Lr.WX_cstr C_ParseError) := by
  have nd := sc__check_string.nd
  refine def_okX (N := ["text"]) (ps := ["text"]) [] F sc__check_string gm hb ⟨_, fun cdv A outer s H E hr => have hu := hr.units; have hu2 := units65 hr
    (jsx_one (js_ifX (jt_not (jt_val (j_isi "str" (.inr (.inr (.inl rfl))) z_isinstance (by decide +kernel) z_str (by decide +kernel) (jv 0)))) (jsx_one (js_raiseX rfl E_ParseError)) jsx_nil)), fun as Q PE hl hW => ?_⟩
  obtain ⟨d, rfl, q1, q2⟩ := hW
  simp only [aIfX, aSeqX, aExprX, aIsi, List.map_cons, List.map_nil, aSeq, aLc, iL, iT, iR1, iE, iZ, aSlT, aSlL, aNoP, aPt, wipeE, aIfS, aT, aB, aBO, aC, aSet, aRet, aTup, aLst, aO, dCons, dNil, aCB, aCBO, aOr, aAnd, aNot, aIf, aAndV, aOrV, aNotV, aSkip, aAsg, aAug, ex_vaint, tgN, aCall, gConsA, gNilA, gScA, gTownA, aPar2, aPar3, aV_eq, dI_i, dIC_i, dIx_t, dIx_l, dMin2_i, dMax2_i, dSumT_2, dLen_l, dLen_t, dEq_i, dNe_i, dEq_ni, dEq_in, dIs_i, dIs_n, dIsn_i, dIsn_n, dCat_l, dCatT_t, dListO_l, dListO_t, dTupleO_l, dTupleO_t, tgs2, tgs0, tgt, ite_t, ite_f, ex_l1i, ex_l1l, ex_l2l, ex_l1, ex_l2, ex_l3, ex_int, ex_bool, ex_some, ex_va, ex_ow, ex_sc, ex_list, ex_tuple, at0, at1, at2, at3, ln0, ln1, ln2, ln3, ln4, ln5, ln6, List.cons_append, List.nil_append, List.getElem?_cons_zero, List.getElem?_cons_succ, List.set_cons_zero, List.set_cons_succ, List.length_cons, List.length_nil, true_and, and_true, true_implies, forall_const, Bool.true_eq_false, Bool.false_eq_true, false_implies, decide_eq_true_eq, decide_eq_false_iff_not, Int.sub_self, Int.sub_zero, Int.reduceSub, Int.reduceAdd, Int.reduceNeg, Int.reduceEq, Int.reduceLT, Int.reduceLE, Int.reduceNe, if_true, if_false, reduceIte, decide_true, decide_false, decide_not, Bool.not_true, Bool.not_false, Bool.not_eq_true, Bool.not_eq_false]
  rcases Lr.isT_cases d with ⟨z, rfl⟩ | ⟨h1, h2, _⟩
  · exact ⟨fun h => (by cases h), fun _ => q1 rfl⟩
  · exact ⟨fun _ => q2 h1, fun h => (by rw [h2] at h; cases h)⟩

theorem t__check_string {f : Addr} {fd : FuncData}  (z_isinstance : mg "isinstance" = none) (z_str : mg "str" = none) (F : Fun K "_check_string" "_check_string" s__check_string f fd) (gm : mg "_check_string" = some (.ref f)) (hb : Binds K fd ["text"] []) : Cl P w K mg base (k + 1) "_check_string" 1 Lr.W_cstr := by
  have nd := sc__check_string.nd
  refine def_ok (N := ["text"]) (ps := ["text"]) [] F sc__check_string gm hb ⟨_, fun cdv A outer s H E hr => have hu := hr.units; have hu2 := units65 hr
    (jss_one (js_if (jt_not (jt_val (j_isi "str" (.inr (.inr (.inl rfl))) z_isinstance (by decide +kernel) z_str (by decide +kernel) (jv 0)))) jss_never jss_nil)), fun as Q hl hW => ?_⟩
  obtain ⟨z, rfl, q⟩ := hW
  simp only [List.map_cons, List.map_nil, aSeq, aLc, iL, iT, iR1, iE, iZ, aSlT, aSlL, aNoP, aPt, wipeE, aIfS, aT, aB, aBO, aC, aSet, aRet, aTup, aLst, aO, dCons, dNil, aCB, aCBO, aOr, aAnd, aNot, aIf, aAndV, aOrV, aNotV, aSkip, aAsg, aAug, ex_vaint, tgN, aCall, gConsA, gNilA, gScA, gTownA, aPar2, aPar3, aV_eq, dI_i, dIC_i, dIx_t, dIx_l, dMin2_i, dMax2_i, dSumT_2, dLen_l, dLen_t, dEq_i, dNe_i, dEq_ni, dEq_in, dIs_i, dIs_n, dIsn_i, dIsn_n, dCat_l, dCatT_t, dListO_l, dListO_t, dTupleO_l, dTupleO_t, tgs2, tgs0, tgt, ite_t, ite_f, ex_l1i, ex_l1l, ex_l2l, ex_l1, ex_l2, ex_l3, ex_int, ex_bool, ex_some, ex_va, ex_ow, ex_sc, ex_list, ex_tuple, at0, at1, at2, at3, ln0, ln1, ln2, ln3, ln4, ln5, ln6, List.cons_append, List.nil_append, List.getElem?_cons_zero, List.getElem?_cons_succ, List.set_cons_zero, List.set_cons_succ, List.length_cons, List.length_nil, true_and, and_true, true_implies, forall_const, Bool.true_eq_false, Bool.false_eq_true, false_implies, decide_eq_true_eq, decide_eq_false_iff_not, Int.sub_self, Int.sub_zero, Int.reduceSub, Int.reduceAdd, Int.reduceNeg, Int.reduceEq, Int.reduceLT, Int.reduceLE, Int.reduceNe, if_true, if_false, reduceIte, decide_true, decide_false, decide_not, Bool.not_true, Bool.not_false, Bool.not_eq_true, Bool.not_eq_false, aIsi, show isiD "str" (.str z) = true from rfl]
  exact q

theorem x__check_signs {f : Addr} {fd : FuncData}  (x__check_string : ClX P w K mg base k "_check_string" 1 (Lr.WX_cstr C_ParseError)) (z_len : mg "len" = none) (z_all : mg "all" = none) (E_ParseError : ExcF K mg "ParseError" C_ParseError) (g_MOST_TICKS : ∃ t, mg "MOST_TICKS" = some (.int 40 t)) (F : Fun K "_check_signs" "_check_signs" s__check_signs f fd) (gm : mg "_check_signs" = some (.ref f)) (hb : L2.Binds K fd ["text", "known"] []) : ClX P w K mg base (k + 1) "_check_signs" 2 (Lr.WX_csig C_ParseError) := by
  have nd := sc__check_signs.nd
  refine def_okX (N := ["text", "known", "sign"]) (ps := ["text", "known"]) [Sl.un] F sc__check_signs gm hb ⟨_, fun cdv A outer s H E hr => have hu := hr.units; have hu2 := units65 hr
    (jsx_cons (js_exprX (jx_call x__check_string hr (ja_cons (jv 0) ja_nil)))
  (jsx_cons (js_ifX (jt_gt (j_bi call_len_str sc_lenS z_len PySem.boot_len (jd_cons (jv 0) jd_nil)) (j_glob g_MOST_TICKS)) (jsx_one (js_raiseX rfl E_ParseError)) jsx_nil)
  (jsx_one (js_ifX (jt_not (jt_val (j_bi (cr_all rfl) sc_all z_all (by decide +kernel) (jd_cons (JO.je (j_lc (own := [("sign", 2)]) rfl nd (ji_str (jv 0)) (blkOk_by (N := ["text", "known", "sign"]) (sc := defScope s__check_signs) (by decide +kernel)) (fun _ _ _ _ _ => pg_name (i := 2) nd rfl (by first | exact Or.inl rfl | exact Or.inr rfl)) simgw_name (fun _ _ _ _ _ => (j_inS (jv 2) (jv 1))))) jd_nil)))) (jsx_one (js_raiseX rfl E_ParseError)) jsx_nil)))), fun as Q PE hl hW => ?_⟩
  obtain ⟨d, k, rfl, hs, q1, q2⟩ := hW
  simp only [aIfX, aSeqX, aExprX, aIsi, List.map_cons, List.map_nil, aSeq, aLc, iL, iT, iR1, iE, iZ, aSlT, aSlL, aNoP, aPt, wipeE, aIfS, aT, aB, aBO, aC, aSet, aRet, aTup, aLst, aO, dCons, dNil, aCB, aCBO, aOr, aAnd, aNot, aIf, aAndV, aOrV, aNotV, aSkip, aAsg, aAug, ex_vaint, tgN, aCall, gConsA, gNilA, gScA, gTownA, aPar2, aPar3, aV_eq, dI_i, dIC_i, dIx_t, dIx_l, dMin2_i, dMax2_i, dSumT_2, dLen_l, dLen_t, dEq_i, dNe_i, dEq_ni, dEq_in, dIs_i, dIs_n, dIsn_i, dIsn_n, dCat_l, dCatT_t, dListO_l, dListO_t, dTupleO_l, dTupleO_t, tgs2, tgs0, tgt, ite_t, ite_f, ex_l1i, ex_l1l, ex_l2l, ex_l1, ex_l2, ex_l3, ex_int, ex_bool, ex_some, ex_va, ex_ow, ex_sc, ex_list, ex_tuple, at0, at1, at2, at3, ln0, ln1, ln2, ln3, ln4, ln5, ln6, List.cons_append, List.nil_append, List.getElem?_cons_zero, List.getElem?_cons_succ, List.set_cons_zero, List.set_cons_succ, List.length_cons, List.length_nil, true_and, and_true, true_implies, forall_const, Bool.true_eq_false, Bool.false_eq_true, false_implies, decide_eq_true_eq, decide_eq_false_iff_not, Int.sub_self, Int.sub_zero, Int.reduceSub, Int.reduceAdd, Int.reduceNeg, Int.reduceEq, Int.reduceLT, Int.reduceLE, Int.reduceNe, if_true, if_false, reduceIte, decide_true, decide_false, decide_not, Bool.not_true, Bool.not_false, Bool.not_eq_true, Bool.not_eq_false, aNiT, aIxT, aGetT, iS, aSlS, aDrop, aNever, Lr.ex_str, Lr.dLenS_s, Lr.dInS_s, Lr.dCatS_s, Lr.W_cstr_i, aJoin, aSplit, tgStarL, dStar]
  refine Lr.xstr ⟨fun h => ?_, fun h => ?_⟩
  · rcases Lr.isT_cases d with ⟨z, rfl⟩ | ⟨h1, _⟩
    · simp only [List.map_cons, List.map_nil, aSeq, aLc, iL, iT, iR1, iE, iZ, aSlT, aSlL, aNoP, aPt, wipeE, aIfS, aT, aB, aBO, aC, aSet, aRet, aTup, aLst, aO, dCons, dNil, aCB, aCBO, aOr, aAnd, aNot, aIf, aAndV, aOrV, aNotV, aSkip, aAsg, aAug, ex_vaint, tgN, aCall, gConsA, gNilA, gScA, gTownA, aPar2, aPar3, aV_eq, dI_i, dIC_i, dIx_t, dIx_l, dMin2_i, dMax2_i, dSumT_2, dLen_l, dLen_t, dEq_i, dNe_i, dEq_ni, dEq_in, dIs_i, dIs_n, dIsn_i, dIsn_n, dCat_l, dCatT_t, dListO_l, dListO_t, dTupleO_l, dTupleO_t, tgs2, tgs0, tgt, ite_t, ite_f, ex_l1i, ex_l1l, ex_l2l, ex_l1, ex_l2, ex_l3, ex_int, ex_bool, ex_some, ex_va, ex_ow, ex_sc, ex_list, ex_tuple, at0, at1, at2, at3, ln0, ln1, ln2, ln3, ln4, ln5, ln6, List.cons_append, List.nil_append, List.getElem?_cons_zero, List.getElem?_cons_succ, List.set_cons_zero, List.set_cons_succ, List.length_cons, List.length_nil, true_and, and_true, true_implies, forall_const, Bool.true_eq_false, Bool.false_eq_true, false_implies, decide_eq_true_eq, decide_eq_false_iff_not, Int.sub_self, Int.sub_zero, Int.reduceSub, Int.reduceAdd, Int.reduceNeg, Int.reduceEq, Int.reduceLT, Int.reduceLE, Int.reduceNe, if_true, if_false, reduceIte, decide_true, decide_false, decide_not, Bool.not_true, Bool.not_false, Bool.not_eq_true, Bool.not_eq_false, aNiT, aIxT, aGetT, iS, aSlS, aDrop, aNever, Lr.ex_str, Lr.dLenS_s, Lr.dInS_s, Lr.dCatS_s, Lr.W_cstr_i, aJoin, aSplit, tgStarL, dStar]
      have hl := hs z rfl
      refine ⟨lineLe (by omega), fun z1 => q2 ?_, fun z1 => ⟨lineLe (by rw [Lr.sgs_len]; omega), ?_⟩⟩
      · rw [Lr.sgn_s, decide_eq_false (by omega), Bool.false_and]
      · refine Lr.coll_sgs (fun c => .bool (decide (c ∈ k.cps.toList))) _ _ (fun c hc N r => ?_) ?_
        · simp only [List.map_cons, List.map_nil, aSeq, aLc, iL, iT, iR1, iE, iZ, aSlT, aSlL, aNoP, aPt, wipeE, aIfS, aT, aB, aBO, aC, aSet, aRet, aTup, aLst, aO, dCons, dNil, aCB, aCBO, aOr, aAnd, aNot, aIf, aAndV, aOrV, aNotV, aSkip, aAsg, aAug, ex_vaint, tgN, aCall, gConsA, gNilA, gScA, gTownA, aPar2, aPar3, aV_eq, dI_i, dIC_i, dIx_t, dIx_l, dMin2_i, dMax2_i, dSumT_2, dLen_l, dLen_t, dEq_i, dNe_i, dEq_ni, dEq_in, dIs_i, dIs_n, dIsn_i, dIsn_n, dCat_l, dCatT_t, dListO_l, dListO_t, dTupleO_l, dTupleO_t, tgs2, tgs0, tgt, ite_t, ite_f, ex_l1i, ex_l1l, ex_l2l, ex_l1, ex_l2, ex_l3, ex_int, ex_bool, ex_some, ex_va, ex_ow, ex_sc, ex_list, ex_tuple, at0, at1, at2, at3, ln0, ln1, ln2, ln3, ln4, ln5, ln6, List.cons_append, List.nil_append, List.getElem?_cons_zero, List.getElem?_cons_succ, List.set_cons_zero, List.set_cons_succ, List.length_cons, List.length_nil, true_and, and_true, true_implies, forall_const, Bool.true_eq_false, Bool.false_eq_true, false_implies, decide_eq_true_eq, decide_eq_false_iff_not, Int.sub_self, Int.sub_zero, Int.reduceSub, Int.reduceAdd, Int.reduceNeg, Int.reduceEq, Int.reduceLT, Int.reduceLE, Int.reduceNe, if_true, if_false, reduceIte, decide_true, decide_false, decide_not, Bool.not_true, Bool.not_false, Bool.not_eq_true, Bool.not_eq_false, aNiT, aIxT, aGetT, iS, aSlS, aDrop, aNever, Lr.ex_str, Lr.dLenS_s, Lr.dInS_s, Lr.dCatS_s, Lr.W_cstr_i, aJoin, aSplit, tgStarL, dStar]
          exact r
        · refine Lr.all_dec ?_
          rw [Lr.sgn_s, decide_eq_true (show z.length ≤ 40 by omega), Bool.true_and] at q1 q2
          exact ⟨_, rfl, fun z2 => q2 (by simpa using z2), fun z2 => q1 (by simpa using z2)⟩
    · rw [h1] at h; cases h
  · rcases Lr.isT_cases d with ⟨z, rfl⟩ | ⟨_, _, h1, _⟩
    · cases h
    · exact q2 (h1 k)

theorem t__check_signs {f : Addr} {fd : FuncData} (c__check_string : Cl P w K mg base k "_check_string" 1 Lr.W_cstr) (z_len : mg "len" = none) (z_all : mg "all" = none) (g_MOST_TICKS : ∃ t, mg "MOST_TICKS" = some (.int 40 t)) (F : Fun K "_check_signs" "_check_signs" s__check_signs f fd) (gm : mg "_check_signs" = some (.ref f)) (hb : Binds K fd ["text", "known"] []) : Cl P w K mg base (k + 1) "_check_signs" 2 Lr.W_csig := by
  have nd := sc__check_signs.nd
  refine def_ok (N := ["text", "known", "sign"]) (ps := ["text", "known"]) [Sl.un] F sc__check_signs gm hb ⟨_, fun cdv A outer s H E hr => have hu := hr.units; have hu2 := units65 hr
    (jss_cons (js_expr (j_call c__check_string hr (ja_cons (jv 0) ja_nil)))
  (jss_cons (js_if (jt_gt (j_bi call_len_str sc_lenS z_len PySem.boot_len (jd_cons (jv 0) jd_nil)) (j_glob g_MOST_TICKS)) jss_never jss_nil)
  (jss_one (js_if (jt_not (jt_val (j_bi (cr_all rfl) sc_all z_all (by decide +kernel) (jd_cons (JO.je (j_lc (own := [("sign", 2)]) rfl nd (ji_str (jv 0)) (blkOk_by (N := ["text", "known", "sign"]) (sc := defScope s__check_signs) (by decide +kernel)) (fun _ _ _ _ _ => pg_name (i := 2) nd rfl (by first | exact Or.inl rfl | exact Or.inr rfl)) simgw_name (fun _ _ _ _ _ => (j_inS (jv 2) (jv 1))))) jd_nil)))) jss_never jss_nil)))), fun as Q hl hW => ?_⟩
  obtain ⟨z, k, rfl, h, q⟩ := hW
  have hm := Lr.sgn_mem h
  have ha : (z.cps.toList.all fun c => decide (c ∈ k.cps.toList)) = true := List.all_eq_true.mpr fun c hc => decide_eq_true (hm.2 c hc)
  simp only [List.map_cons, List.map_nil, aSeq, aLc, iL, iT, iR1, iE, iZ, aSlT, aSlL, aNoP, aPt, wipeE, aIfS, aT, aB, aBO, aC, aSet, aRet, aTup, aLst, aO, dCons, dNil, aCB, aCBO, aOr, aAnd, aNot, aIf, aAndV, aOrV, aNotV, aSkip, aAsg, aAug, ex_vaint, tgN, aCall, gConsA, gNilA, gScA, gTownA, aPar2, aPar3, aV_eq, dI_i, dIC_i, dIx_t, dIx_l, dMin2_i, dMax2_i, dSumT_2, dLen_l, dLen_t, dEq_i, dNe_i, dEq_ni, dEq_in, dIs_i, dIs_n, dIsn_i, dIsn_n, dCat_l, dCatT_t, dListO_l, dListO_t, dTupleO_l, dTupleO_t, tgs2, tgs0, tgt, ite_t, ite_f, ex_l1i, ex_l1l, ex_l2l, ex_l1, ex_l2, ex_l3, ex_int, ex_bool, ex_some, ex_va, ex_ow, ex_sc, ex_list, ex_tuple, at0, at1, at2, at3, ln0, ln1, ln2, ln3, ln4, ln5, ln6, List.cons_append, List.nil_append, List.getElem?_cons_zero, List.getElem?_cons_succ, List.set_cons_zero, List.set_cons_succ, List.length_cons, List.length_nil, true_and, and_true, true_implies, forall_const, Bool.true_eq_false, Bool.false_eq_true, false_implies, decide_eq_true_eq, decide_eq_false_iff_not, Int.sub_self, Int.sub_zero, Int.reduceSub, Int.reduceAdd, Int.reduceNeg, Int.reduceEq, Int.reduceLT, Int.reduceLE, Int.reduceNe, if_true, if_false, reduceIte, decide_true, decide_false, decide_not, Bool.not_true, Bool.not_false, Bool.not_eq_true, Bool.not_eq_false, aNiT, aIxT, aGetT, iS, aSlS, aDrop, aNever, Lr.ex_str, Lr.dLenS_s, Lr.dInS_s, Lr.dCatS_s, Lr.W_cstr_i, aJoin, aSplit, tgStarL, dStar]
  refine ⟨lineLe (by omega), fun z => absurd z (by omega), fun _ => ⟨lineLe (by rw [Lr.sgs_len]; omega), ?_⟩⟩
  refine Lr.coll_sgs (fun c => .bool (decide (c ∈ k.cps.toList))) _ _ (fun c hc N r => ?_) ?_
  · simp only [List.map_cons, List.map_nil, aSeq, aLc, iL, iT, iR1, iE, iZ, aSlT, aSlL, aNoP, aPt, wipeE, aIfS, aT, aB, aBO, aC, aSet, aRet, aTup, aLst, aO, dCons, dNil, aCB, aCBO, aOr, aAnd, aNot, aIf, aAndV, aOrV, aNotV, aSkip, aAsg, aAug, ex_vaint, tgN, aCall, gConsA, gNilA, gScA, gTownA, aPar2, aPar3, aV_eq, dI_i, dIC_i, dIx_t, dIx_l, dMin2_i, dMax2_i, dSumT_2, dLen_l, dLen_t, dEq_i, dNe_i, dEq_ni, dEq_in, dIs_i, dIs_n, dIsn_i, dIsn_n, dCat_l, dCatT_t, dListO_l, dListO_t, dTupleO_l, dTupleO_t, tgs2, tgs0, tgt, ite_t, ite_f, ex_l1i, ex_l1l, ex_l2l, ex_l1, ex_l2, ex_l3, ex_int, ex_bool, ex_some, ex_va, ex_ow, ex_sc, ex_list, ex_tuple, at0, at1, at2, at3, ln0, ln1, ln2, ln3, ln4, ln5, ln6, List.cons_append, List.nil_append, List.getElem?_cons_zero, List.getElem?_cons_succ, List.set_cons_zero, List.set_cons_succ, List.length_cons, List.length_nil, true_and, and_true, true_implies, forall_const, Bool.true_eq_false, Bool.false_eq_true, false_implies, decide_eq_true_eq, decide_eq_false_iff_not, Int.sub_self, Int.sub_zero, Int.reduceSub, Int.reduceAdd, Int.reduceNeg, Int.reduceEq, Int.reduceLT, Int.reduceLE, Int.reduceNe, if_true, if_false, reduceIte, decide_true, decide_false, decide_not, Bool.not_true, Bool.not_false, Bool.not_eq_true, Bool.not_eq_false, aNiT, aIxT, aGetT, iS, aSlS, aDrop, aNever, Lr.ex_str, Lr.dLenS_s, Lr.dInS_s, Lr.dCatS_s, Lr.W_cstr_i, aJoin, aSplit, tgStarL, dStar]
    exact r
  · refine Lr.all_dec ?_
    rw [ha]
    exact ⟨_, rfl, fun z => (by cases z), fun _ => q⟩

theorem x_parse_comings {f : Addr} {fd : FuncData}  (x__check_signs : ClX P w K mg base k "_check_signs" 2 (Lr.WX_csig C_ParseError)) (F : Fun K "parse_comings" "parse_comings" s_parse_comings f fd) (gm : mg "parse_comings" = some (.ref f)) (hb : L2.Binds K fd ["text"] []) : ClX P w K mg base (k + 1) "parse_comings" 1 (Lr.WX_psig "0123" C_ParseError) := by
  have nd := sc_parse_comings.nd
  refine def_okX (N := ["text", "sign"]) (ps := ["text"]) [Sl.un] F sc_parse_comings gm hb ⟨_, fun cdv A outer s H E hr => have hu := hr.units; have hu2 := units65 hr
    (jsx_cons (js_exprX (jx_call x__check_signs hr (ja_cons (jv 0) (ja_cons j_str ja_nil))))
  jsx_never), fun as Q PE hl hW => ?_⟩
  obtain ⟨d, rfl, hs, h, q⟩ := hW
  simp only [aIfX, aSeqX, aExprX, aIsi, List.map_cons, List.map_nil, aSeq, aLc, iL, iT, iR1, iE, iZ, aSlT, aSlL, aNoP, aPt, wipeE, aIfS, aT, aB, aBO, aC, aSet, aRet, aTup, aLst, aO, dCons, dNil, aCB, aCBO, aOr, aAnd, aNot, aIf, aAndV, aOrV, aNotV, aSkip, aAsg, aAug, ex_vaint, tgN, aCall, gConsA, gNilA, gScA, gTownA, aPar2, aPar3, aV_eq, dI_i, dIC_i, dIx_t, dIx_l, dMin2_i, dMax2_i, dSumT_2, dLen_l, dLen_t, dEq_i, dNe_i, dEq_ni, dEq_in, dIs_i, dIs_n, dIsn_i, dIsn_n, dCat_l, dCatT_t, dListO_l, dListO_t, dTupleO_l, dTupleO_t, tgs2, tgs0, tgt, ite_t, ite_f, ex_l1i, ex_l1l, ex_l2l, ex_l1, ex_l2, ex_l3, ex_int, ex_bool, ex_some, ex_va, ex_ow, ex_sc, ex_list, ex_tuple, at0, at1, at2, at3, ln0, ln1, ln2, ln3, ln4, ln5, ln6, List.cons_append, List.nil_append, List.getElem?_cons_zero, List.getElem?_cons_succ, List.set_cons_zero, List.set_cons_succ, List.length_cons, List.length_nil, true_and, and_true, true_implies, forall_const, Bool.true_eq_false, Bool.false_eq_true, false_implies, decide_eq_true_eq, decide_eq_false_iff_not, Int.sub_self, Int.sub_zero, Int.reduceSub, Int.reduceAdd, Int.reduceNeg, Int.reduceEq, Int.reduceLT, Int.reduceLE, Int.reduceNe, if_true, if_false, reduceIte, decide_true, decide_false, decide_not, Bool.not_true, Bool.not_false, Bool.not_eq_true, Bool.not_eq_false]
  exact Lr.xsig hs h q

theorem t_parse_comings {f : Addr} {fd : FuncData} (c__check_signs : Cl P w K mg base k "_check_signs" 2 Lr.W_csig) (z_int : mg "int" = none) (F : Fun K "parse_comings" "parse_comings" s_parse_comings f fd) (gm : mg "parse_comings" = some (.ref f)) (hb : Binds K fd ["text"] []) : Cl P w K mg base (k + 1) "parse_comings" 1 Lr.W_pcom := by
  have nd := sc_parse_comings.nd
  refine def_ok (N := ["text", "sign"]) (ps := ["text"]) [Sl.un] F sc_parse_comings gm hb ⟨_, fun cdv A outer s H E hr => have hu := hr.units; have hu2 := units65 hr
    (jss_cons (js_expr (j_call c__check_signs hr (ja_cons (jv 0) (ja_cons j_str ja_nil))))
  (jss_one (js_ret (JO.je (j_lc (own := [("sign", 1)]) rfl nd (ji_str (jv 0)) (blkOk_by (N := ["text", "sign"]) (sc := defScope s_parse_comings) (by decide +kernel)) (fun _ _ _ _ _ => pg_name (i := 1) nd rfl (by first | exact Or.inl rfl | exact Or.inr rfl)) simgw_name (fun _ _ _ _ _ => (j_ty call_int_str sc_intS z_int (by decide +kernel) (jd_cons (jv 1) jd_nil)))))))), fun as Q hl hW => ?_⟩
  obtain ⟨z, rfl, h, q⟩ := hW
  have hm := Lr.sgn_mem h
  simp only [List.map_cons, List.map_nil, aSeq, aLc, iL, iT, iR1, iE, iZ, aSlT, aSlL, aNoP, aPt, wipeE, aIfS, aT, aB, aBO, aC, aSet, aRet, aTup, aLst, aO, dCons, dNil, aCB, aCBO, aOr, aAnd, aNot, aIf, aAndV, aOrV, aNotV, aSkip, aAsg, aAug, ex_vaint, tgN, aCall, gConsA, gNilA, gScA, gTownA, aPar2, aPar3, aV_eq, dI_i, dIC_i, dIx_t, dIx_l, dMin2_i, dMax2_i, dSumT_2, dLen_l, dLen_t, dEq_i, dNe_i, dEq_ni, dEq_in, dIs_i, dIs_n, dIsn_i, dIsn_n, dCat_l, dCatT_t, dListO_l, dListO_t, dTupleO_l, dTupleO_t, tgs2, tgs0, tgt, ite_t, ite_f, ex_l1i, ex_l1l, ex_l2l, ex_l1, ex_l2, ex_l3, ex_int, ex_bool, ex_some, ex_va, ex_ow, ex_sc, ex_list, ex_tuple, at0, at1, at2, at3, ln0, ln1, ln2, ln3, ln4, ln5, ln6, List.cons_append, List.nil_append, List.getElem?_cons_zero, List.getElem?_cons_succ, List.set_cons_zero, List.set_cons_succ, List.length_cons, List.length_nil, true_and, and_true, true_implies, forall_const, Bool.true_eq_false, Bool.false_eq_true, false_implies, decide_eq_true_eq, decide_eq_false_iff_not, Int.sub_self, Int.sub_zero, Int.reduceSub, Int.reduceAdd, Int.reduceNeg, Int.reduceEq, Int.reduceLT, Int.reduceLE, Int.reduceNe, if_true, if_false, reduceIte, decide_true, decide_false, decide_not, Bool.not_true, Bool.not_false, Bool.not_eq_true, Bool.not_eq_false, aNiT, aIxT, aGetT, iS, aSlS, aDrop, aNever, Lr.ex_str, Lr.dLenS_s, Lr.dInS_s, Lr.dCatS_s, Lr.W_cstr_i, aJoin, aSplit, tgStarL, dStar, Lr.W_csig_i h]
  refine ⟨lineLe (by rw [Lr.sgs_len]; omega), Lr.coll_sgs (fun c => .int ((c : Int) - 48)) _ _ (fun c hc N r => ?_) q⟩
  simp only [List.map_cons, List.map_nil, aSeq, aLc, iL, iT, iR1, iE, iZ, aSlT, aSlL, aNoP, aPt, wipeE, aIfS, aT, aB, aBO, aC, aSet, aRet, aTup, aLst, aO, dCons, dNil, aCB, aCBO, aOr, aAnd, aNot, aIf, aAndV, aOrV, aNotV, aSkip, aAsg, aAug, ex_vaint, tgN, aCall, gConsA, gNilA, gScA, gTownA, aPar2, aPar3, aV_eq, dI_i, dIC_i, dIx_t, dIx_l, dMin2_i, dMax2_i, dSumT_2, dLen_l, dLen_t, dEq_i, dNe_i, dEq_ni, dEq_in, dIs_i, dIs_n, dIsn_i, dIsn_n, dCat_l, dCatT_t, dListO_l, dListO_t, dTupleO_l, dTupleO_t, tgs2, tgs0, tgt, ite_t, ite_f, ex_l1i, ex_l1l, ex_l2l, ex_l1, ex_l2, ex_l3, ex_int, ex_bool, ex_some, ex_va, ex_ow, ex_sc, ex_list, ex_tuple, at0, at1, at2, at3, ln0, ln1, ln2, ln3, ln4, ln5, ln6, List.cons_append, List.nil_append, List.getElem?_cons_zero, List.getElem?_cons_succ, List.set_cons_zero, List.set_cons_succ, List.length_cons, List.length_nil, true_and, and_true, true_implies, forall_const, Bool.true_eq_false, Bool.false_eq_true, false_implies, decide_eq_true_eq, decide_eq_false_iff_not, Int.sub_self, Int.sub_zero, Int.reduceSub, Int.reduceAdd, Int.reduceNeg, Int.reduceEq, Int.reduceLT, Int.reduceLE, Int.reduceNe, if_true, if_false, reduceIte, decide_true, decide_false, decide_not, Bool.not_true, Bool.not_false, Bool.not_eq_true, Bool.not_eq_false, aNiT, aIxT, aGetT, iS, aSlS, aDrop, aNever, Lr.ex_str, Lr.dLenS_s, Lr.dInS_s, Lr.dCatS_s, Lr.W_cstr_i, aJoin, aSplit, tgStarL, dStar]
  exact ⟨_, _, rfl, Lr.sg_int (hm.2 c hc), Nat.le_of_ble_eq_true rfl, r⟩

theorem x_parse_lights {f : Addr} {fd : FuncData}  (x__check_signs : ClX P w K mg base k "_check_signs" 2 (Lr.WX_csig C_ParseError)) (F : Fun K "parse_lights" "parse_lights" s_parse_lights f fd) (gm : mg "parse_lights" = some (.ref f)) (hb : L2.Binds K fd ["text"] []) : ClX P w K mg base (k + 1) "parse_lights" 1 (Lr.WX_psig "01-" C_ParseError) := by
  have nd := sc_parse_lights.nd
  refine def_okX (N := ["text", "sign"]) (ps := ["text"]) [Sl.un] F sc_parse_lights gm hb ⟨_, fun cdv A outer s H E hr => have hu := hr.units; have hu2 := units65 hr
    (jsx_cons (js_exprX (jx_call x__check_signs hr (ja_cons (jv 0) (ja_cons j_str ja_nil))))
  jsx_never), fun as Q PE hl hW => ?_⟩
  obtain ⟨d, rfl, hs, h, q⟩ := hW
  simp only [aIfX, aSeqX, aExprX, aIsi, List.map_cons, List.map_nil, aSeq, aLc, iL, iT, iR1, iE, iZ, aSlT, aSlL, aNoP, aPt, wipeE, aIfS, aT, aB, aBO, aC, aSet, aRet, aTup, aLst, aO, dCons, dNil, aCB, aCBO, aOr, aAnd, aNot, aIf, aAndV, aOrV, aNotV, aSkip, aAsg, aAug, ex_vaint, tgN, aCall, gConsA, gNilA, gScA, gTownA, aPar2, aPar3, aV_eq, dI_i, dIC_i, dIx_t, dIx_l, dMin2_i, dMax2_i, dSumT_2, dLen_l, dLen_t, dEq_i, dNe_i, dEq_ni, dEq_in, dIs_i, dIs_n, dIsn_i, dIsn_n, dCat_l, dCatT_t, dListO_l, dListO_t, dTupleO_l, dTupleO_t, tgs2, tgs0, tgt, ite_t, ite_f, ex_l1i, ex_l1l, ex_l2l, ex_l1, ex_l2, ex_l3, ex_int, ex_bool, ex_some, ex_va, ex_ow, ex_sc, ex_list, ex_tuple, at0, at1, at2, at3, ln0, ln1, ln2, ln3, ln4, ln5, ln6, List.cons_append, List.nil_append, List.getElem?_cons_zero, List.getElem?_cons_succ, List.set_cons_zero, List.set_cons_succ, List.length_cons, List.length_nil, true_and, and_true, true_implies, forall_const, Bool.true_eq_false, Bool.false_eq_true, false_implies, decide_eq_true_eq, decide_eq_false_iff_not, Int.sub_self, Int.sub_zero, Int.reduceSub, Int.reduceAdd, Int.reduceNeg, Int.reduceEq, Int.reduceLT, Int.reduceLE, Int.reduceNe, if_true, if_false, reduceIte, decide_true, decide_false, decide_not, Bool.not_true, Bool.not_false, Bool.not_eq_true, Bool.not_eq_false]
  exact Lr.xsig hs h q

theorem t_parse_lights {f : Addr} {fd : FuncData} (c__check_signs : Cl P w K mg base k "_check_signs" 2 Lr.W_csig) (T3__LIGHTS : Tb K w mg "_LIGHTS" Lr.ligT) (F : Fun K "parse_lights" "parse_lights" s_parse_lights f fd) (gm : mg "parse_lights" = some (.ref f)) (hb : Binds K fd ["text"] []) : Cl P w K mg base (k + 1) "parse_lights" 1 Lr.W_plig := by
  have nd := sc_parse_lights.nd
  refine def_ok (N := ["text", "sign"]) (ps := ["text"]) [Sl.un] F sc_parse_lights gm hb ⟨_, fun cdv A outer s H E hr => have hu := hr.units; have hu2 := units65 hr
    (jss_cons (js_expr (j_call c__check_signs hr (ja_cons (jv 0) (ja_cons j_str ja_nil))))
  (jss_one (js_ret (JO.je (j_lc (own := [("sign", 1)]) rfl nd (ji_str (jv 0)) (blkOk_by (N := ["text", "sign"]) (sc := defScope s_parse_lights) (by decide +kernel)) (fun _ _ _ _ _ => pg_name (i := 1) nd rfl (by first | exact Or.inl rfl | exact Or.inr rfl)) simgw_name (fun _ _ _ _ _ => (j_ixT T3__LIGHTS (jv 1)))))))), fun as Q hl hW => ?_⟩
  obtain ⟨z, rfl, h, q⟩ := hW
  have hm := Lr.sgn_mem h
  simp only [List.map_cons, List.map_nil, aSeq, aLc, iL, iT, iR1, iE, iZ, aSlT, aSlL, aNoP, aPt, wipeE, aIfS, aT, aB, aBO, aC, aSet, aRet, aTup, aLst, aO, dCons, dNil, aCB, aCBO, aOr, aAnd, aNot, aIf, aAndV, aOrV, aNotV, aSkip, aAsg, aAug, ex_vaint, tgN, aCall, gConsA, gNilA, gScA, gTownA, aPar2, aPar3, aV_eq, dI_i, dIC_i, dIx_t, dIx_l, dMin2_i, dMax2_i, dSumT_2, dLen_l, dLen_t, dEq_i, dNe_i, dEq_ni, dEq_in, dIs_i, dIs_n, dIsn_i, dIsn_n, dCat_l, dCatT_t, dListO_l, dListO_t, dTupleO_l, dTupleO_t, tgs2, tgs0, tgt, ite_t, ite_f, ex_l1i, ex_l1l, ex_l2l, ex_l1, ex_l2, ex_l3, ex_int, ex_bool, ex_some, ex_va, ex_ow, ex_sc, ex_list, ex_tuple, at0, at1, at2, at3, ln0, ln1, ln2, ln3, ln4, ln5, ln6, List.cons_append, List.nil_append, List.getElem?_cons_zero, List.getElem?_cons_succ, List.set_cons_zero, List.set_cons_succ, List.length_cons, List.length_nil, true_and, and_true, true_implies, forall_const, Bool.true_eq_false, Bool.false_eq_true, false_implies, decide_eq_true_eq, decide_eq_false_iff_not, Int.sub_self, Int.sub_zero, Int.reduceSub, Int.reduceAdd, Int.reduceNeg, Int.reduceEq, Int.reduceLT, Int.reduceLE, Int.reduceNe, if_true, if_false, reduceIte, decide_true, decide_false, decide_not, Bool.not_true, Bool.not_false, Bool.not_eq_true, Bool.not_eq_false, aNiT, aIxT, aGetT, iS, aSlS, aDrop, aNever, Lr.ex_str, Lr.dLenS_s, Lr.dInS_s, Lr.dCatS_s, Lr.W_cstr_i, aJoin, aSplit, tgStarL, dStar, Lr.W_csig_i h]
  refine ⟨lineLe (by rw [Lr.sgs_len]; omega), Lr.coll_sgs (fun c => (lookT Lr.ligT (sg c)).getD .none) _ _ (fun c hc N r => ?_) q⟩
  simp only [List.map_cons, List.map_nil, aSeq, aLc, iL, iT, iR1, iE, iZ, aSlT, aSlL, aNoP, aPt, wipeE, aIfS, aT, aB, aBO, aC, aSet, aRet, aTup, aLst, aO, dCons, dNil, aCB, aCBO, aOr, aAnd, aNot, aIf, aAndV, aOrV, aNotV, aSkip, aAsg, aAug, ex_vaint, tgN, aCall, gConsA, gNilA, gScA, gTownA, aPar2, aPar3, aV_eq, dI_i, dIC_i, dIx_t, dIx_l, dMin2_i, dMax2_i, dSumT_2, dLen_l, dLen_t, dEq_i, dNe_i, dEq_ni, dEq_in, dIs_i, dIs_n, dIsn_i, dIsn_n, dCat_l, dCatT_t, dListO_l, dListO_t, dTupleO_l, dTupleO_t, tgs2, tgs0, tgt, ite_t, ite_f, ex_l1i, ex_l1l, ex_l2l, ex_l1, ex_l2, ex_l3, ex_int, ex_bool, ex_some, ex_va, ex_ow, ex_sc, ex_list, ex_tuple, at0, at1, at2, at3, ln0, ln1, ln2, ln3, ln4, ln5, ln6, List.cons_append, List.nil_append, List.getElem?_cons_zero, List.getElem?_cons_succ, List.set_cons_zero, List.set_cons_succ, List.length_cons, List.length_nil, true_and, and_true, true_implies, forall_const, Bool.true_eq_false, Bool.false_eq_true, false_implies, decide_eq_true_eq, decide_eq_false_iff_not, Int.sub_self, Int.sub_zero, Int.reduceSub, Int.reduceAdd, Int.reduceNeg, Int.reduceEq, Int.reduceLT, Int.reduceLE, Int.reduceNe, if_true, if_false, reduceIte, decide_true, decide_false, decide_not, Bool.not_true, Bool.not_false, Bool.not_eq_true, Bool.not_eq_false, aNiT, aIxT, aGetT, iS, aSlS, aDrop, aNever, Lr.ex_str, Lr.dLenS_s, Lr.dInS_s, Lr.dCatS_s, Lr.W_cstr_i, aJoin, aSplit, tgStarL, dStar]
  obtain ⟨d, hd⟩ := Lr.sg_lig (hm.2 c hc)
  rw [hd] at r
  exact ⟨_, _, rfl, hd, r⟩

theorem x_parse_rule {f : Addr} {fd : FuncData} (c_is_rule : Cl P w K mg base k "is_rule" 1 Lr.W_is_rule3) (x__check_string : ClX P w K mg base k "_check_string" 1 (Lr.WX_cstr C_ParseError)) (T3__NUMBERS : Tb K w mg "_NUMBERS" Lr.numT) (E_ParseError : ExcF K mg "ParseError" C_ParseError) (F : Fun K "parse_rule" "parse_rule" s_parse_rule f fd) (gm : mg "parse_rule" = some (.ref f)) (hb : L2.Binds K fd ["text"] []) : ClX P w K mg base (k + 1) "parse_rule" 1 (Lr.WX_prule C_ParseError) := by
  have nd := sc_parse_rule.nd
  refine def_okX (N := ["text", "word", "figures", "numbers", "rule", "figure"]) (ps := ["text"]) [Sl.un, Sl.un, Sl.un, Sl.un, Sl.un] F sc_parse_rule gm hb ⟨_, fun cdv A outer s H E hr => have hu := hr.units; have hu2 := units65 hr
    (jsx_cons (js_exprX (jx_call x__check_string hr (ja_cons (jv 0) ja_nil)))
  (jsx_cons (JS.toX (js_asg (JO.je (jo_split (jv 0) j_str)) (jg_starL 1 2 rfl nd)))
  (jsx_cons (JS.toX (js_setLc 3 (own := [("figure", 5)]) rfl nd (ji_list (jv 2)) (blkOk_by (N := ["text", "word", "figures", "numbers", "rule", "figure"]) (sc := defScope s_parse_rule) (by decide +kernel)) (fun _ _ _ _ _ => pg_name (i := 5) nd rfl (by first | exact Or.inl rfl | exact Or.inr rfl)) simgw_name (fun _ _ _ _ _ => (j_getT T3__NUMBERS (jv 5))) (sw_true rfl rfl rfl (by decide +kernel))))
  (jsx_cons (JS.toX (js_set 4 nd (je_tup (jd_cons (jv 1) (jd_star (jv 3) jd_nil)))))
  (jsx_cons (js_ifX (jt_not (jt_val (j_call c_is_rule hr (ja_cons (jv 4) ja_nil)))) (jsx_one (js_raiseX rfl E_ParseError)) jsx_nil)
  jsx_never))))), fun as Q PE hl hW => ?_⟩
  obtain ⟨d, rfl, hs, h, q⟩ := hW
  simp only [aIfX, aSeqX, aExprX, aIsi, List.map_cons, List.map_nil, aSeq, aLc, iL, iT, iR1, iE, iZ, aSlT, aSlL, aNoP, aPt, wipeE, aIfS, aT, aB, aBO, aC, aSet, aRet, aTup, aLst, aO, dCons, dNil, aCB, aCBO, aOr, aAnd, aNot, aIf, aAndV, aOrV, aNotV, aSkip, aAsg, aAug, ex_vaint, tgN, aCall, gConsA, gNilA, gScA, gTownA, aPar2, aPar3, aV_eq, dI_i, dIC_i, dIx_t, dIx_l, dMin2_i, dMax2_i, dSumT_2, dLen_l, dLen_t, dEq_i, dNe_i, dEq_ni, dEq_in, dIs_i, dIs_n, dIsn_i, dIsn_n, dCat_l, dCatT_t, dListO_l, dListO_t, dTupleO_l, dTupleO_t, tgs2, tgs0, tgt, ite_t, ite_f, ex_l1i, ex_l1l, ex_l2l, ex_l1, ex_l2, ex_l3, ex_int, ex_bool, ex_some, ex_va, ex_ow, ex_sc, ex_list, ex_tuple, at0, at1, at2, at3, ln0, ln1, ln2, ln3, ln4, ln5, ln6, List.cons_append, List.nil_append, List.getElem?_cons_zero, List.getElem?_cons_succ, List.set_cons_zero, List.set_cons_succ, List.length_cons, List.length_nil, true_and, and_true, true_implies, forall_const, Bool.true_eq_false, Bool.false_eq_true, false_implies, decide_eq_true_eq, decide_eq_false_iff_not, Int.sub_self, Int.sub_zero, Int.reduceSub, Int.reduceAdd, Int.reduceNeg, Int.reduceEq, Int.reduceLT, Int.reduceLE, Int.reduceNe, if_true, if_false, reduceIte, decide_true, decide_false, decide_not, Bool.not_true, Bool.not_false, Bool.not_eq_true, Bool.not_eq_false, aNiT, aIxT, aGetT, iS, aSlS, aDrop, aNever, Lr.ex_str, Lr.dLenS_s, Lr.dInS_s, Lr.dCatS_s, Lr.W_cstr_i, aJoin, aSplit, tgStarL, dStar]
  refine Lr.xstr ⟨fun h1 => ?_, fun h1 => q⟩
  rcases Lr.isT_cases d with ⟨z, rfl⟩ | ⟨h2, _⟩
  · obtain ⟨w, fs, e, hl⟩ := Lr.split_ne z
    have hz := hs z rfl
    have e' : Txt.split z (Str.ofString " ") = w :: fs := e
    simp only [List.map_cons, List.map_nil, aSeq, aLc, iL, iT, iR1, iE, iZ, aSlT, aSlL, aNoP, aPt, wipeE, aIfS, aT, aB, aBO, aC, aSet, aRet, aTup, aLst, aO, dCons, dNil, aCB, aCBO, aOr, aAnd, aNot, aIf, aAndV, aOrV, aNotV, aSkip, aAsg, aAug, ex_vaint, tgN, aCall, gConsA, gNilA, gScA, gTownA, aPar2, aPar3, aV_eq, dI_i, dIC_i, dIx_t, dIx_l, dMin2_i, dMax2_i, dSumT_2, dLen_l, dLen_t, dEq_i, dNe_i, dEq_ni, dEq_in, dIs_i, dIs_n, dIsn_i, dIsn_n, dCat_l, dCatT_t, dListO_l, dListO_t, dTupleO_l, dTupleO_t, tgs2, tgs0, tgt, ite_t, ite_f, ex_l1i, ex_l1l, ex_l2l, ex_l1, ex_l2, ex_l3, ex_int, ex_bool, ex_some, ex_va, ex_ow, ex_sc, ex_list, ex_tuple, at0, at1, at2, at3, ln0, ln1, ln2, ln3, ln4, ln5, ln6, List.cons_append, List.nil_append, List.getElem?_cons_zero, List.getElem?_cons_succ, List.set_cons_zero, List.set_cons_succ, List.length_cons, List.length_nil, true_and, and_true, true_implies, forall_const, Bool.true_eq_false, Bool.false_eq_true, false_implies, decide_eq_true_eq, decide_eq_false_iff_not, Int.sub_self, Int.sub_zero, Int.reduceSub, Int.reduceAdd, Int.reduceNeg, Int.reduceEq, Int.reduceLT, Int.reduceLE, Int.reduceNe, if_true, if_false, reduceIte, decide_true, decide_false, decide_not, Bool.not_true, Bool.not_false, Bool.not_eq_true, Bool.not_eq_false, aNiT, aIxT, aGetT, iS, aSlS, aDrop, aNever, Lr.ex_str, Lr.dLenS_s, Lr.dInS_s, Lr.dCatS_s, Lr.W_cstr_i, aJoin, aSplit, tgStarL, dStar]
    rw [e', List.map_cons]
    have hl2 : (fs.map fun f => (lookT Lr.numT f).getD .none).length = fs.length := List.length_map _
    refine ⟨by decide +kernel, lineLe (by omega), _, _, rfl, by rw [List.length_map]; omega, lineLe (by rw [List.length_map]; omega), ?_⟩
    refine Lr.coll_strs (fun f => (lookT Lr.numT f).getD .none) _ _ (fun f hf N r => ?_) ⟨_, .inl rfl, ?_⟩
    · simp only [List.map_cons, List.map_nil, aSeq, aLc, iL, iT, iR1, iE, iZ, aSlT, aSlL, aNoP, aPt, wipeE, aIfS, aT, aB, aBO, aC, aSet, aRet, aTup, aLst, aO, dCons, dNil, aCB, aCBO, aOr, aAnd, aNot, aIf, aAndV, aOrV, aNotV, aSkip, aAsg, aAug, ex_vaint, tgN, aCall, gConsA, gNilA, gScA, gTownA, aPar2, aPar3, aV_eq, dI_i, dIC_i, dIx_t, dIx_l, dMin2_i, dMax2_i, dSumT_2, dLen_l, dLen_t, dEq_i, dNe_i, dEq_ni, dEq_in, dIs_i, dIs_n, dIsn_i, dIsn_n, dCat_l, dCatT_t, dListO_l, dListO_t, dTupleO_l, dTupleO_t, tgs2, tgs0, tgt, ite_t, ite_f, ex_l1i, ex_l1l, ex_l2l, ex_l1, ex_l2, ex_l3, ex_int, ex_bool, ex_some, ex_va, ex_ow, ex_sc, ex_list, ex_tuple, at0, at1, at2, at3, ln0, ln1, ln2, ln3, ln4, ln5, ln6, List.cons_append, List.nil_append, List.getElem?_cons_zero, List.getElem?_cons_succ, List.set_cons_zero, List.set_cons_succ, List.length_cons, List.length_nil, true_and, and_true, true_implies, forall_const, Bool.true_eq_false, Bool.false_eq_true, false_implies, decide_eq_true_eq, decide_eq_false_iff_not, Int.sub_self, Int.sub_zero, Int.reduceSub, Int.reduceAdd, Int.reduceNeg, Int.reduceEq, Int.reduceLT, Int.reduceLE, Int.reduceNe, if_true, if_false, reduceIte, decide_true, decide_false, decide_not, Bool.not_true, Bool.not_false, Bool.not_eq_true, Bool.not_eq_false, aNiT, aIxT, aGetT, iS, aSlS, aDrop, aNever, Lr.ex_str, Lr.dLenS_s, Lr.dInS_s, Lr.dCatS_s, Lr.W_cstr_i, aJoin, aSplit, tgStarL, dStar]
      exact r
    · rw [List.append_nil, List.nil_append]
      have et := Lr.told_eq e
      have hr : Lr.isRule (Lr.told z) = false := by simpa [Lr.badT] using h
      rw [Lr.W_is_rule3_i (by rw [← et]; exact Lr.told_len hz), ← et, hr]
      exact ⟨lineLe (by omega), false, rfl, fun _ => q, fun z => (by cases z)⟩
  · rw [h2] at h1; cases h1

theorem t_parse_rule {f : Addr} {fd : FuncData} (c__check_string : Cl P w K mg base k "_check_string" 1 Lr.W_cstr) (c_is_rule : Cl P w K mg base k "is_rule" 1 Lr.W_is_rule3) (T3__NUMBERS : Tb K w mg "_NUMBERS" Lr.numT) (F : Fun K "parse_rule" "parse_rule" s_parse_rule f fd) (gm : mg "parse_rule" = some (.ref f)) (hb : Binds K fd ["text"] []) : Cl P w K mg base (k + 1) "parse_rule" 1 Lr.W_prule := by
  have nd := sc_parse_rule.nd
  refine def_ok (N := ["text", "word", "figures", "numbers", "rule", "figure"]) (ps := ["text"]) [Sl.un, Sl.un, Sl.un, Sl.un, Sl.un] F sc_parse_rule gm hb ⟨_, fun cdv A outer s H E hr => have hu := hr.units; have hu2 := units65 hr
    (jss_cons (js_expr (j_call c__check_string hr (ja_cons (jv 0) ja_nil)))
  (jss_cons (js_asg (JO.je (jo_split (jv 0) j_str)) (jg_starL 1 2 rfl nd))
  (jss_cons (js_setLc 3 (own := [("figure", 5)]) rfl nd (ji_list (jv 2)) (blkOk_by (N := ["text", "word", "figures", "numbers", "rule", "figure"]) (sc := defScope s_parse_rule) (by decide +kernel)) (fun _ _ _ _ _ => pg_name (i := 5) nd rfl (by first | exact Or.inl rfl | exact Or.inr rfl)) simgw_name (fun _ _ _ _ _ => (j_getT T3__NUMBERS (jv 5))) (sw_true rfl rfl rfl (by decide +kernel)))
  (jss_cons (js_set 4 nd (je_tup (jd_cons (jv 1) (jd_star (jv 3) jd_nil))))
  (jss_cons (js_if (jt_not (jt_val (j_call c_is_rule hr (ja_cons (jv 4) ja_nil)))) jss_never jss_nil)
  (jss_one (js_ret (jv 4)))))))), fun as Q hl hW => ?_⟩
  obtain ⟨z, rfl, hz, h, q⟩ := hW
  obtain ⟨w, fs, e, hl⟩ := Lr.split_ne z
  simp only [List.map_cons, List.map_nil, aSeq, aLc, iL, iT, iR1, iE, iZ, aSlT, aSlL, aNoP, aPt, wipeE, aIfS, aT, aB, aBO, aC, aSet, aRet, aTup, aLst, aO, dCons, dNil, aCB, aCBO, aOr, aAnd, aNot, aIf, aAndV, aOrV, aNotV, aSkip, aAsg, aAug, ex_vaint, tgN, aCall, gConsA, gNilA, gScA, gTownA, aPar2, aPar3, aV_eq, dI_i, dIC_i, dIx_t, dIx_l, dMin2_i, dMax2_i, dSumT_2, dLen_l, dLen_t, dEq_i, dNe_i, dEq_ni, dEq_in, dIs_i, dIs_n, dIsn_i, dIsn_n, dCat_l, dCatT_t, dListO_l, dListO_t, dTupleO_l, dTupleO_t, tgs2, tgs0, tgt, ite_t, ite_f, ex_l1i, ex_l1l, ex_l2l, ex_l1, ex_l2, ex_l3, ex_int, ex_bool, ex_some, ex_va, ex_ow, ex_sc, ex_list, ex_tuple, at0, at1, at2, at3, ln0, ln1, ln2, ln3, ln4, ln5, ln6, List.cons_append, List.nil_append, List.getElem?_cons_zero, List.getElem?_cons_succ, List.set_cons_zero, List.set_cons_succ, List.length_cons, List.length_nil, true_and, and_true, true_implies, forall_const, Bool.true_eq_false, Bool.false_eq_true, false_implies, decide_eq_true_eq, decide_eq_false_iff_not, Int.sub_self, Int.sub_zero, Int.reduceSub, Int.reduceAdd, Int.reduceNeg, Int.reduceEq, Int.reduceLT, Int.reduceLE, Int.reduceNe, if_true, if_false, reduceIte, decide_true, decide_false, decide_not, Bool.not_true, Bool.not_false, Bool.not_eq_true, Bool.not_eq_false, aNiT, aIxT, aGetT, iS, aSlS, aDrop, aNever, Lr.ex_str, Lr.dLenS_s, Lr.dInS_s, Lr.dCatS_s, Lr.W_cstr_i, aJoin, aSplit, tgStarL, dStar]
  have e' : Txt.split z (Str.ofString " ") = w :: fs := e
  rw [e', List.map_cons]
  have hl2 : (fs.map fun f => (lookT Lr.numT f).getD .none).length = fs.length := List.length_map _
  refine ⟨by decide +kernel, lineLe (by omega), _, _, rfl, by rw [List.length_map]; omega, lineLe (by rw [List.length_map]; omega), ?_⟩
  refine Lr.coll_strs (fun f => (lookT Lr.numT f).getD .none) _ _ (fun f hf N r => ?_) ⟨_, .inl rfl, ?_⟩
  · simp only [List.map_cons, List.map_nil, aSeq, aLc, iL, iT, iR1, iE, iZ, aSlT, aSlL, aNoP, aPt, wipeE, aIfS, aT, aB, aBO, aC, aSet, aRet, aTup, aLst, aO, dCons, dNil, aCB, aCBO, aOr, aAnd, aNot, aIf, aAndV, aOrV, aNotV, aSkip, aAsg, aAug, ex_vaint, tgN, aCall, gConsA, gNilA, gScA, gTownA, aPar2, aPar3, aV_eq, dI_i, dIC_i, dIx_t, dIx_l, dMin2_i, dMax2_i, dSumT_2, dLen_l, dLen_t, dEq_i, dNe_i, dEq_ni, dEq_in, dIs_i, dIs_n, dIsn_i, dIsn_n, dCat_l, dCatT_t, dListO_l, dListO_t, dTupleO_l, dTupleO_t, tgs2, tgs0, tgt, ite_t, ite_f, ex_l1i, ex_l1l, ex_l2l, ex_l1, ex_l2, ex_l3, ex_int, ex_bool, ex_some, ex_va, ex_ow, ex_sc, ex_list, ex_tuple, at0, at1, at2, at3, ln0, ln1, ln2, ln3, ln4, ln5, ln6, List.cons_append, List.nil_append, List.getElem?_cons_zero, List.getElem?_cons_succ, List.set_cons_zero, List.set_cons_succ, List.length_cons, List.length_nil, true_and, and_true, true_implies, forall_const, Bool.true_eq_false, Bool.false_eq_true, false_implies, decide_eq_true_eq, decide_eq_false_iff_not, Int.sub_self, Int.sub_zero, Int.reduceSub, Int.reduceAdd, Int.reduceNeg, Int.reduceEq, Int.reduceLT, Int.reduceLE, Int.reduceNe, if_true, if_false, reduceIte, decide_true, decide_false, decide_not, Bool.not_true, Bool.not_false, Bool.not_eq_true, Bool.not_eq_false, aNiT, aIxT, aGetT, iS, aSlS, aDrop, aNever, Lr.ex_str, Lr.dLenS_s, Lr.dInS_s, Lr.dCatS_s, Lr.W_cstr_i, aJoin, aSplit, tgStarL, dStar]
    exact r
  · rw [List.append_nil, List.nil_append]
    have et := Lr.told_eq e
    rw [Lr.W_is_rule3_i (by rw [← et]; exact Lr.told_len hz), ← et, h]
    exact ⟨lineLe (by omega), true, rfl, fun z => (by cases z), fun _ => q⟩

theorem t__law_read {f : Addr} {fd : FuncData} (c_parse_rule : Cl P w K mg base k "parse_rule" 1 Lr.W_prule) (c_parse_lights : Cl P w K mg base k "parse_lights" 1 Lr.W_plig) (c_parse_comings : Cl P w K mg base k "parse_comings" 1 Lr.W_pcom) (z_isinstance : mg "isinstance" = none) (gE_LightError : mg "LightError" = some (.ref C_LightError)) (gE_ParseError : mg "ParseError" = some (.ref C_ParseError)) (x_parse_rule : ClX P w K mg base k "parse_rule" 1 (Lr.WX_prule C_ParseError)) (x_parse_lights : ClX P w K mg base k "parse_lights" 1 (Lr.WX_psig "01-" C_ParseError)) (x_parse_comings : ClX P w K mg base k "parse_comings" 1 (Lr.WX_psig "0123" C_ParseError)) (F : Fun K "_law_read" "_law_read" s__law_read f fd) (gm : mg "_law_read" = some (.ref f)) (hb : Binds K fd ["_law_text", "_law_what"] []) : Cl P w K mg base (k + 1) "_law_read" 2 (Lr.W_read K C_LightError C_ParseError) := by
  have nd := sc__law_read.nd
  refine def_ok (N := ["_law_text", "_law_what", "error"]) (ps := ["_law_text", "_law_what"]) [Sl.un] F sc__law_read gm hb ⟨_, fun cdv A outer s H E hr => have hu := hr.units; have hu2 := units65 hr
    (jss_one (js_try 2 (ok := Lr.OkP K C_LightError C_ParseError) nd ⟨rfl, by decide, .inl gE_LightError⟩ (fun C h => h.exm) (fun pn xe => (jsx_one (js_retX (JEX.or (jx_callL (.cons x_parse_comings rfl (by decide) rfl (.cons x_parse_lights rfl (by decide) rfl (.cons x_parse_rule rfl (by decide) rfl .nil))) (show 3 < 1000 by decide) hr (jv 1) (fun _ _ => rfl) (ja_cons (jv 0) ja_nil)) (jx_callL (.cons (clX_of c_parse_comings) rfl (by decide) rfl (.cons (clX_of c_parse_lights) rfl (by decide) rfl (.cons (clX_of c_parse_rule) rfl (by decide) rfl .nil))) (show 3 < 1000 by decide) hr (jv 1) (fun _ _ => rfl) (ja_cons (jv 0) ja_nil)))))) (fun e oe C pn hz hfl hC => (jss_one (js_ret (je_if (jt_val (je_isEo K 2 (List.mem_cons_self) hC.exc hz hfl gE_ParseError z_isinstance (by decide +kernel))) j_non j_int)))))), fun as Q hl hW => ?_⟩
  obtain ⟨z, w, rfl, hw, hz, hp, q⟩ := hW
  have hs : Lr.Short (.str z) := fun y e => by cases e; exact hz
  have sus : q = q := rfl
  simp only [aTry, aRetX, aCallL, List.map_cons, List.map_nil, aSeq, aLc, iL, iT, iR1, iE, iZ, aSlT, aSlL, aNoP, aPt, wipeE, aIfS, aT, aB, aBO, aC, aSet, aRet, aTup, aLst, aO, dCons, dNil, aCB, aCBO, aOr, aAnd, aNot, aIf, aAndV, aOrV, aNotV, aSkip, aAsg, aAug, ex_vaint, tgN, aCall, gConsA, gNilA, gScA, gTownA, aPar2, aPar3, aV_eq, dI_i, dIC_i, dIx_t, dIx_l, dMin2_i, dMax2_i, dSumT_2, dLen_l, dLen_t, dEq_i, dNe_i, dEq_ni, dEq_in, dIs_i, dIs_n, dIsn_i, dIsn_n, dCat_l, dCatT_t, dListO_l, dListO_t, dTupleO_l, dTupleO_t, tgs2, tgs0, tgt, ite_t, ite_f, ex_l1i, ex_l1l, ex_l2l, ex_l1, ex_l2, ex_l3, ex_int, ex_bool, ex_some, ex_va, ex_ow, ex_sc, ex_list, ex_tuple, at0, at1, at2, at3, ln0, ln1, ln2, ln3, ln4, ln5, ln6, List.cons_append, List.nil_append, List.getElem?_cons_zero, List.getElem?_cons_succ, List.set_cons_zero, List.set_cons_succ, List.length_cons, List.length_nil, true_and, and_true, true_implies, forall_const, Bool.true_eq_false, Bool.false_eq_true, false_implies, decide_eq_true_eq, decide_eq_false_iff_not, Int.sub_self, Int.sub_zero, Int.reduceSub, Int.reduceAdd, Int.reduceNeg, Int.reduceEq, Int.reduceLT, Int.reduceLE, Int.reduceNe, if_true, if_false, reduceIte, decide_true, decide_false, decide_not, Bool.not_true, Bool.not_false, Bool.not_eq_true, Bool.not_eq_false]
  refine ⟨by decide, ?_⟩
  have good : ∀ a b : Sl, Q .none → Lr.OkP K C_LightError C_ParseError C_ParseError ∧ ∀ x : Addr, aIsE K 2 x C_ParseError (Value.ref C_ParseError) [a, b, Sl.ln (exT x)] fun x => ∃ k, x = .bool k ∧ (k = true → Q .none) ∧ (k = false → Q (.int 0)) := fun a b q => ⟨hp, fun x => ⟨rfl, true, hp.is, true, rfl, fun _ => q, fun z => by cases z⟩⟩
  match w, hw, q with
  | 0, _, q =>
    cases h : Lr.sgn "0123" (.str z) with
    | true => exact .inr ⟨0, _, rfl, rfl, z, rfl, h, by simpa only [Lr.readD, h, if_true] using q⟩
    | false => exact .inl ⟨0, _, rfl, rfl, _, rfl, hs, h, good _ _ (by simpa only [Lr.readD, h, Bool.false_eq_true, if_false] using q)⟩
  | 1, _, q =>
    cases h : Lr.sgn "01-" (.str z) with
    | true => exact .inr ⟨1, _, rfl, rfl, z, rfl, h, by simpa only [Lr.readD, h, if_true] using q⟩
    | false => exact .inl ⟨1, _, rfl, rfl, _, rfl, hs, h, good _ _ (by simpa only [Lr.readD, h, Bool.false_eq_true, if_false] using q)⟩
  | 2, _, q =>
    cases h : Lr.isRule (Lr.told z) with
    | true => exact .inr ⟨2, _, rfl, rfl, z, rfl, hz, h, by simpa only [Lr.readD, h, if_true] using q⟩
    | false => exact .inl ⟨2, _, rfl, rfl, _, rfl, hs, by simp only [Lr.badT, h]; rfl, good _ _ (by simpa only [Lr.readD, h, Bool.false_eq_true, if_false] using q)⟩
  | w + 3, hw, _ => exact absurd hw (by omega)

theorem t_check_rule {f : Addr} {fd : FuncData} (c_is_rule : Cl P w K mg base k "is_rule" 1 Lr.W_is_rule3) (F : Fun K "check_rule" "check_rule" s_check_rule f fd) (gm : mg "check_rule" = some (.ref f)) (hb : Binds K fd ["rule"] []) : Cl P w K mg base (k + 1) "check_rule" 1 Lr.W_ck_ru := by
  have nd := sc_check_rule.nd
  refine def_ok (N := ["rule"]) (ps := ["rule"]) [] F sc_check_rule gm hb ⟨_, fun cdv A outer s H E hr => have hu := hr.units; have hu2 := units65 hr
    (jss_one (js_if (jt_not (jt_val (j_call c_is_rule hr (ja_cons (jv 0) ja_nil)))) jss_never jss_nil)), fun as Q hl hW => ?_⟩
  obtain ⟨rule, rfl, hc, q⟩ := hW
  simp only [List.map_cons, List.map_nil, aSeq, aLc, iL, iT, iR1, iE, iZ, aSlT, aSlL, aNoP, aPt, wipeE, aIfS, aT, aB, aBO, aC, aSet, aRet, aTup, aLst, aO, dCons, dNil, aCB, aCBO, aOr, aAnd, aNot, aIf, aAndV, aOrV, aNotV, aSkip, aAsg, aAug, ex_vaint, tgN, aCall, gConsA, gNilA, gScA, gTownA, aPar2, aPar3, aV_eq, dI_i, dIC_i, dIx_t, dIx_l, dMin2_i, dMax2_i, dSumT_2, dLen_l, dLen_t, dEq_i, dNe_i, dEq_ni, dEq_in, dIs_i, dIs_n, dIsn_i, dIsn_n, dCat_l, dCatT_t, dListO_l, dListO_t, dTupleO_l, dTupleO_t, tgs2, tgs0, tgt, ite_t, ite_f, ex_l1i, ex_l1l, ex_l2l, ex_l1, ex_l2, ex_l3, ex_int, ex_bool, ex_some, ex_va, ex_ow, ex_sc, ex_list, ex_tuple, at0, at1, at2, at3, ln0, ln1, ln2, ln3, ln4, ln5, ln6, List.cons_append, List.nil_append, List.getElem?_cons_zero, List.getElem?_cons_succ, List.set_cons_zero, List.set_cons_succ, List.length_cons, List.length_nil, true_and, and_true, true_implies, forall_const, Bool.true_eq_false, Bool.false_eq_true, false_implies, decide_eq_true_eq, decide_eq_false_iff_not, Int.sub_self, Int.sub_zero, Int.reduceSub, Int.reduceAdd, Int.reduceNeg, Int.reduceEq, Int.reduceLT, Int.reduceLE, Int.reduceNe, if_true, if_false, reduceIte, decide_true, decide_false, decide_not, Bool.not_true, Bool.not_false, Bool.not_eq_true, Bool.not_eq_false, Lr.W_is_rule3_i Lr.rule_len, Lr.isRule_ok hc]
  exact q

theorem t_format_rule {f : Addr} {fd : FuncData} (c_check_rule : Cl P w K mg base k "check_rule" 1 Lr.W_ck_ru) (z_str : mg "str" = none) (F : Fun K "format_rule" "format_rule" s_format_rule f fd) (gm : mg "format_rule" = some (.ref f)) (hb : Binds K fd ["rule"] []) : Cl P w K mg base (k + 1) "format_rule" 1 Lr.W_frule := by
  have nd := sc_format_rule.nd
  refine def_ok (N := ["rule", "part"]) (ps := ["rule"]) [Sl.un] F sc_format_rule gm hb ⟨_, fun cdv A outer s H E hr => have hu := hr.units; have hu2 := units65 hr
    (jss_cons (js_expr (j_call c_check_rule hr (ja_cons (jv 0) ja_nil)))
  (jss_one (js_ret (j_join j_str (JO.je (j_lc (own := [("part", 1)]) rfl nd (ji_tup (jv 0)) (blkOk_by (N := ["rule", "part"]) (sc := defScope s_format_rule) (by decide +kernel)) (fun _ _ _ _ _ => pg_name (i := 1) nd rfl (by first | exact Or.inl rfl | exact Or.inr rfl)) simgw_name (fun _ _ _ _ _ => (j_ty (L2.CallR.or call_str_int SkE.call_str_str) sc_strA z_str (by decide +kernel) (jd_cons (jv 1) jd_nil))))))))), fun as Q hl hW => ?_⟩
  obtain ⟨r, rfl, h, q⟩ := hW
  simp only [List.map_cons, List.map_nil, aSeq, aLc, iL, iT, iR1, iE, iZ, aSlT, aSlL, aNoP, aPt, wipeE, aIfS, aT, aB, aBO, aC, aSet, aRet, aTup, aLst, aO, dCons, dNil, aCB, aCBO, aOr, aAnd, aNot, aIf, aAndV, aOrV, aNotV, aSkip, aAsg, aAug, ex_vaint, tgN, aCall, gConsA, gNilA, gScA, gTownA, aPar2, aPar3, aV_eq, dI_i, dIC_i, dIx_t, dIx_l, dMin2_i, dMax2_i, dSumT_2, dLen_l, dLen_t, dEq_i, dNe_i, dEq_ni, dEq_in, dIs_i, dIs_n, dIsn_i, dIsn_n, dCat_l, dCatT_t, dListO_l, dListO_t, dTupleO_l, dTupleO_t, tgs2, tgs0, tgt, ite_t, ite_f, ex_l1i, ex_l1l, ex_l2l, ex_l1, ex_l2, ex_l3, ex_int, ex_bool, ex_some, ex_va, ex_ow, ex_sc, ex_list, ex_tuple, at0, at1, at2, at3, ln0, ln1, ln2, ln3, ln4, ln5, ln6, List.cons_append, List.nil_append, List.getElem?_cons_zero, List.getElem?_cons_succ, List.set_cons_zero, List.set_cons_succ, List.length_cons, List.length_nil, true_and, and_true, true_implies, forall_const, Bool.true_eq_false, Bool.false_eq_true, false_implies, decide_eq_true_eq, decide_eq_false_iff_not, Int.sub_self, Int.sub_zero, Int.reduceSub, Int.reduceAdd, Int.reduceNeg, Int.reduceEq, Int.reduceLT, Int.reduceLE, Int.reduceNe, if_true, if_false, reduceIte, decide_true, decide_false, decide_not, Bool.not_true, Bool.not_false, Bool.not_eq_true, Bool.not_eq_false, aNiT, aIxT, aGetT, iS, aSlS, aDrop, aNever, Lr.ex_str, Lr.dLenS_s, Lr.dInS_s, Lr.dCatS_s, Lr.W_cstr_i, aJoin, aSplit, tgStarL, dStar]
  refine ⟨r, rfl, h, ?_⟩
  show ∃ ds, r.d = PyData.tuple ds ∧ _
  rw [Lr.ruleI_d]
  refine ⟨_, rfl, lineLe (by cases r <;> simp [Lr.ruleI]), ?_⟩
  refine coll_map (fun d => .str (Lr.txD d)) _ [] (fun d hd N p => ?_) ?_
  · simp only [List.map_cons, List.map_nil, aSeq, aLc, iL, iT, iR1, iE, iZ, aSlT, aSlL, aNoP, aPt, wipeE, aIfS, aT, aB, aBO, aC, aSet, aRet, aTup, aLst, aO, dCons, dNil, aCB, aCBO, aOr, aAnd, aNot, aIf, aAndV, aOrV, aNotV, aSkip, aAsg, aAug, ex_vaint, tgN, aCall, gConsA, gNilA, gScA, gTownA, aPar2, aPar3, aV_eq, dI_i, dIC_i, dIx_t, dIx_l, dMin2_i, dMax2_i, dSumT_2, dLen_l, dLen_t, dEq_i, dNe_i, dEq_ni, dEq_in, dIs_i, dIs_n, dIsn_i, dIsn_n, dCat_l, dCatT_t, dListO_l, dListO_t, dTupleO_l, dTupleO_t, tgs2, tgs0, tgt, ite_t, ite_f, ex_l1i, ex_l1l, ex_l2l, ex_l1, ex_l2, ex_l3, ex_int, ex_bool, ex_some, ex_va, ex_ow, ex_sc, ex_list, ex_tuple, at0, at1, at2, at3, ln0, ln1, ln2, ln3, ln4, ln5, ln6, List.cons_append, List.nil_append, List.getElem?_cons_zero, List.getElem?_cons_succ, List.set_cons_zero, List.set_cons_succ, List.length_cons, List.length_nil, true_and, and_true, true_implies, forall_const, Bool.true_eq_false, Bool.false_eq_true, false_implies, decide_eq_true_eq, decide_eq_false_iff_not, Int.sub_self, Int.sub_zero, Int.reduceSub, Int.reduceAdd, Int.reduceNeg, Int.reduceEq, Int.reduceLT, Int.reduceLE, Int.reduceNe, if_true, if_false, reduceIte, decide_true, decide_false, decide_not, Bool.not_true, Bool.not_false, Bool.not_eq_true, Bool.not_eq_false, aNiT, aIxT, aGetT, iS, aSlS, aDrop, aNever, Lr.ex_str, Lr.dLenS_s, Lr.dInS_s, Lr.dCatS_s, Lr.W_cstr_i, aJoin, aSplit, tgStarL, dStar]
    exact Lr.dStr_d (Lr.ruleI_ok h d hd) p
  · refine ⟨(Lr.ruleI r).map Lr.txD, by rw [List.nil_append, List.map_map]; rfl, by rw [Lr.ruleI_w]; exact Lr.rule_fit h, ?_⟩
    rw [Lr.ruleI_w]
    exact q

theorem t_are_comings {f : Addr} {fd : FuncData} (c_is_number : Cl P w K mg base k "is_number" 3 Lr.W_is_number) (z_len : mg "len" = none) (z_isinstance : mg "isinstance" = none) (z_list : mg "list" = none) (z_all : mg "all" = none) (g_MOST_TICKS : ∃ t, mg "MOST_TICKS" = some (.int 40 t)) (F : Fun K "are_comings" "are_comings" s_are_comings f fd) (gm : mg "are_comings" = some (.ref f)) (hb : Binds K fd ["candidate"] []) : Cl P w K mg base (k + 1) "are_comings" 1 Lr.W_are_comings := by
  have nd := sc_are_comings.nd
  refine def_ok (N := ["candidate", "coming"]) (ps := ["candidate"]) [Sl.un] F sc_are_comings gm hb ⟨_, fun cdv A outer s H E hr => have hu := hr.units; have hu2 := units65 hr
    (jss_cons (js_if (JW.t (jw_or (jt_not (jt_val (j_isi "list" (.inr (.inr (.inr (.inl rfl)))) z_isinstance (by decide +kernel) z_list (by decide +kernel) (jv 0)))) (jw_or1 (jt_gt (j_bi call_len_seq sc_len z_len PySem.boot_len (jd_cons (jv 0) jd_nil)) (j_glob g_MOST_TICKS))))) (jss_one (js_ret j_bl)) jss_nil)
  (jss_one (js_ret (j_bi (cr_all rfl) sc_all z_all (by decide +kernel) (jd_cons (JO.je (j_lc (own := [("coming", 1)]) rfl nd (ji_list (jv 0)) (blkOk_by (N := ["candidate", "coming"]) (sc := defScope s_are_comings) (by decide +kernel)) (fun _ _ _ _ _ => pg_name (i := 1) nd rfl (by first | exact Or.inl rfl | exact Or.inr rfl)) simgw_name (fun _ _ _ _ _ => (j_call c_is_number hr (ja_cons (jv 1) (ja_cons j_int (ja_cons j_int ja_nil))))))) jd_nil))))), fun as Q hl hW => ?_⟩
  obtain ⟨d, rfl, hd, q⟩ := hW
  match d, hd, q with
  | .list xs, hd, q =>
    have hx := hd xs rfl
    simp only [List.map_cons, List.map_nil, aSeq, aLc, iL, iT, iR1, iE, iZ, aSlT, aSlL, aNoP, aPt, wipeE, aIfS, aT, aB, aBO, aC, aSet, aRet, aTup, aLst, aO, dCons, dNil, aCB, aCBO, aOr, aAnd, aNot, aIf, aAndV, aOrV, aNotV, aSkip, aAsg, aAug, ex_vaint, tgN, aCall, gConsA, gNilA, gScA, gTownA, aPar2, aPar3, aV_eq, dI_i, dIC_i, dIx_t, dIx_l, dMin2_i, dMax2_i, dSumT_2, dLen_l, dLen_t, dEq_i, dNe_i, dEq_ni, dEq_in, dIs_i, dIs_n, dIsn_i, dIsn_n, dCat_l, dCatT_t, dListO_l, dListO_t, dTupleO_l, dTupleO_t, tgs2, tgs0, tgt, ite_t, ite_f, ex_l1i, ex_l1l, ex_l2l, ex_l1, ex_l2, ex_l3, ex_int, ex_bool, ex_some, ex_va, ex_ow, ex_sc, ex_list, ex_tuple, at0, at1, at2, at3, ln0, ln1, ln2, ln3, ln4, ln5, ln6, List.cons_append, List.nil_append, List.getElem?_cons_zero, List.getElem?_cons_succ, List.set_cons_zero, List.set_cons_succ, List.length_cons, List.length_nil, true_and, and_true, true_implies, forall_const, Bool.true_eq_false, Bool.false_eq_true, false_implies, decide_eq_true_eq, decide_eq_false_iff_not, Int.sub_self, Int.sub_zero, Int.reduceSub, Int.reduceAdd, Int.reduceNeg, Int.reduceEq, Int.reduceLT, Int.reduceLE, Int.reduceNe, if_true, if_false, reduceIte, decide_true, decide_false, decide_not, Bool.not_true, Bool.not_false, Bool.not_eq_true, Bool.not_eq_false, aIsi, show isiD "list" (.list xs) = true from rfl, Lr.areCo] at q ⊢
    refine ⟨fun h => ?_, fun h => ?_⟩
    · have e : decide (xs.length ≤ 40) = false := by
        rw [decide_eq_false_iff_not]
        omega
      rw [e, Bool.false_and] at q
      exact q
    · refine ⟨lineLe hx, coll_map (fun d => .bool (Lr.isNum 0 3 d)) xs [] (fun d hd Q q => ?_) ?_⟩
      · simp only [List.map_cons, List.map_nil, aSeq, aLc, iL, iT, iR1, iE, iZ, aSlT, aSlL, aNoP, aPt, wipeE, aIfS, aT, aB, aBO, aC, aSet, aRet, aTup, aLst, aO, dCons, dNil, aCB, aCBO, aOr, aAnd, aNot, aIf, aAndV, aOrV, aNotV, aSkip, aAsg, aAug, ex_vaint, tgN, aCall, gConsA, gNilA, gScA, gTownA, aPar2, aPar3, aV_eq, dI_i, dIC_i, dIx_t, dIx_l, dMin2_i, dMax2_i, dSumT_2, dLen_l, dLen_t, dEq_i, dNe_i, dEq_ni, dEq_in, dIs_i, dIs_n, dIsn_i, dIsn_n, dCat_l, dCatT_t, dListO_l, dListO_t, dTupleO_l, dTupleO_t, tgs2, tgs0, tgt, ite_t, ite_f, ex_l1i, ex_l1l, ex_l2l, ex_l1, ex_l2, ex_l3, ex_int, ex_bool, ex_some, ex_va, ex_ow, ex_sc, ex_list, ex_tuple, at0, at1, at2, at3, ln0, ln1, ln2, ln3, ln4, ln5, ln6, List.cons_append, List.nil_append, List.getElem?_cons_zero, List.getElem?_cons_succ, List.set_cons_zero, List.set_cons_succ, List.length_cons, List.length_nil, true_and, and_true, true_implies, forall_const, Bool.true_eq_false, Bool.false_eq_true, false_implies, decide_eq_true_eq, decide_eq_false_iff_not, Int.sub_self, Int.sub_zero, Int.reduceSub, Int.reduceAdd, Int.reduceNeg, Int.reduceEq, Int.reduceLT, Int.reduceLE, Int.reduceNe, if_true, if_false, reduceIte, decide_true, decide_false, decide_not, Bool.not_true, Bool.not_false, Bool.not_eq_true, Bool.not_eq_false, wipeE, Lr.W_is_number_i]
        exact q
      · refine ⟨xs.map (Lr.isNum 0 3), by simp, ?_⟩
        have e : decide (xs.length ≤ 40) = true := by
          rw [decide_eq_true_eq]
          omega
        rw [e, Bool.true_and] at q
        simpa [List.all_map, Function.comp] using q
  | .int i, hd, q =>
    simp only [List.map_cons, List.map_nil, aSeq, aLc, iL, iT, iR1, iE, iZ, aSlT, aSlL, aNoP, aPt, wipeE, aIfS, aT, aB, aBO, aC, aSet, aRet, aTup, aLst, aO, dCons, dNil, aCB, aCBO, aOr, aAnd, aNot, aIf, aAndV, aOrV, aNotV, aSkip, aAsg, aAug, ex_vaint, tgN, aCall, gConsA, gNilA, gScA, gTownA, aPar2, aPar3, aV_eq, dI_i, dIC_i, dIx_t, dIx_l, dMin2_i, dMax2_i, dSumT_2, dLen_l, dLen_t, dEq_i, dNe_i, dEq_ni, dEq_in, dIs_i, dIs_n, dIsn_i, dIsn_n, dCat_l, dCatT_t, dListO_l, dListO_t, dTupleO_l, dTupleO_t, tgs2, tgs0, tgt, ite_t, ite_f, ex_l1i, ex_l1l, ex_l2l, ex_l1, ex_l2, ex_l3, ex_int, ex_bool, ex_some, ex_va, ex_ow, ex_sc, ex_list, ex_tuple, at0, at1, at2, at3, ln0, ln1, ln2, ln3, ln4, ln5, ln6, List.cons_append, List.nil_append, List.getElem?_cons_zero, List.getElem?_cons_succ, List.set_cons_zero, List.set_cons_succ, List.length_cons, List.length_nil, true_and, and_true, true_implies, forall_const, Bool.true_eq_false, Bool.false_eq_true, false_implies, decide_eq_true_eq, decide_eq_false_iff_not, Int.sub_self, Int.sub_zero, Int.reduceSub, Int.reduceAdd, Int.reduceNeg, Int.reduceEq, Int.reduceLT, Int.reduceLE, Int.reduceNe, if_true, if_false, reduceIte, decide_true, decide_false, decide_not, Bool.not_true, Bool.not_false, Bool.not_eq_true, Bool.not_eq_false, aIsi, show isiD "list" (.int i) = false from rfl, Lr.areCo] at q ⊢
    exact q
  | .bool i, hd, q =>
    simp only [List.map_cons, List.map_nil, aSeq, aLc, iL, iT, iR1, iE, iZ, aSlT, aSlL, aNoP, aPt, wipeE, aIfS, aT, aB, aBO, aC, aSet, aRet, aTup, aLst, aO, dCons, dNil, aCB, aCBO, aOr, aAnd, aNot, aIf, aAndV, aOrV, aNotV, aSkip, aAsg, aAug, ex_vaint, tgN, aCall, gConsA, gNilA, gScA, gTownA, aPar2, aPar3, aV_eq, dI_i, dIC_i, dIx_t, dIx_l, dMin2_i, dMax2_i, dSumT_2, dLen_l, dLen_t, dEq_i, dNe_i, dEq_ni, dEq_in, dIs_i, dIs_n, dIsn_i, dIsn_n, dCat_l, dCatT_t, dListO_l, dListO_t, dTupleO_l, dTupleO_t, tgs2, tgs0, tgt, ite_t, ite_f, ex_l1i, ex_l1l, ex_l2l, ex_l1, ex_l2, ex_l3, ex_int, ex_bool, ex_some, ex_va, ex_ow, ex_sc, ex_list, ex_tuple, at0, at1, at2, at3, ln0, ln1, ln2, ln3, ln4, ln5, ln6, List.cons_append, List.nil_append, List.getElem?_cons_zero, List.getElem?_cons_succ, List.set_cons_zero, List.set_cons_succ, List.length_cons, List.length_nil, true_and, and_true, true_implies, forall_const, Bool.true_eq_false, Bool.false_eq_true, false_implies, decide_eq_true_eq, decide_eq_false_iff_not, Int.sub_self, Int.sub_zero, Int.reduceSub, Int.reduceAdd, Int.reduceNeg, Int.reduceEq, Int.reduceLT, Int.reduceLE, Int.reduceNe, if_true, if_false, reduceIte, decide_true, decide_false, decide_not, Bool.not_true, Bool.not_false, Bool.not_eq_true, Bool.not_eq_false, aIsi, show isiD "list" (.bool i) = false from rfl, Lr.areCo] at q ⊢
    exact q
  | .none, hd, q =>
    simp only [List.map_cons, List.map_nil, aSeq, aLc, iL, iT, iR1, iE, iZ, aSlT, aSlL, aNoP, aPt, wipeE, aIfS, aT, aB, aBO, aC, aSet, aRet, aTup, aLst, aO, dCons, dNil, aCB, aCBO, aOr, aAnd, aNot, aIf, aAndV, aOrV, aNotV, aSkip, aAsg, aAug, ex_vaint, tgN, aCall, gConsA, gNilA, gScA, gTownA, aPar2, aPar3, aV_eq, dI_i, dIC_i, dIx_t, dIx_l, dMin2_i, dMax2_i, dSumT_2, dLen_l, dLen_t, dEq_i, dNe_i, dEq_ni, dEq_in, dIs_i, dIs_n, dIsn_i, dIsn_n, dCat_l, dCatT_t, dListO_l, dListO_t, dTupleO_l, dTupleO_t, tgs2, tgs0, tgt, ite_t, ite_f, ex_l1i, ex_l1l, ex_l2l, ex_l1, ex_l2, ex_l3, ex_int, ex_bool, ex_some, ex_va, ex_ow, ex_sc, ex_list, ex_tuple, at0, at1, at2, at3, ln0, ln1, ln2, ln3, ln4, ln5, ln6, List.cons_append, List.nil_append, List.getElem?_cons_zero, List.getElem?_cons_succ, List.set_cons_zero, List.set_cons_succ, List.length_cons, List.length_nil, true_and, and_true, true_implies, forall_const, Bool.true_eq_false, Bool.false_eq_true, false_implies, decide_eq_true_eq, decide_eq_false_iff_not, Int.sub_self, Int.sub_zero, Int.reduceSub, Int.reduceAdd, Int.reduceNeg, Int.reduceEq, Int.reduceLT, Int.reduceLE, Int.reduceNe, if_true, if_false, reduceIte, decide_true, decide_false, decide_not, Bool.not_true, Bool.not_false, Bool.not_eq_true, Bool.not_eq_false, aIsi, show isiD "list" .none = false from rfl, Lr.areCo] at q ⊢
    exact q
  | .str i, hd, q =>
    simp only [List.map_cons, List.map_nil, aSeq, aLc, iL, iT, iR1, iE, iZ, aSlT, aSlL, aNoP, aPt, wipeE, aIfS, aT, aB, aBO, aC, aSet, aRet, aTup, aLst, aO, dCons, dNil, aCB, aCBO, aOr, aAnd, aNot, aIf, aAndV, aOrV, aNotV, aSkip, aAsg, aAug, ex_vaint, tgN, aCall, gConsA, gNilA, gScA, gTownA, aPar2, aPar3, aV_eq, dI_i, dIC_i, dIx_t, dIx_l, dMin2_i, dMax2_i, dSumT_2, dLen_l, dLen_t, dEq_i, dNe_i, dEq_ni, dEq_in, dIs_i, dIs_n, dIsn_i, dIsn_n, dCat_l, dCatT_t, dListO_l, dListO_t, dTupleO_l, dTupleO_t, tgs2, tgs0, tgt, ite_t, ite_f, ex_l1i, ex_l1l, ex_l2l, ex_l1, ex_l2, ex_l3, ex_int, ex_bool, ex_some, ex_va, ex_ow, ex_sc, ex_list, ex_tuple, at0, at1, at2, at3, ln0, ln1, ln2, ln3, ln4, ln5, ln6, List.cons_append, List.nil_append, List.getElem?_cons_zero, List.getElem?_cons_succ, List.set_cons_zero, List.set_cons_succ, List.length_cons, List.length_nil, true_and, and_true, true_implies, forall_const, Bool.true_eq_false, Bool.false_eq_true, false_implies, decide_eq_true_eq, decide_eq_false_iff_not, Int.sub_self, Int.sub_zero, Int.reduceSub, Int.reduceAdd, Int.reduceNeg, Int.reduceEq, Int.reduceLT, Int.reduceLE, Int.reduceNe, if_true, if_false, reduceIte, decide_true, decide_false, decide_not, Bool.not_true, Bool.not_false, Bool.not_eq_true, Bool.not_eq_false, aIsi, show isiD "list" (.str i) = false from rfl, Lr.areCo] at q ⊢
    exact q
  | .tuple i, hd, q =>
    simp only [List.map_cons, List.map_nil, aSeq, aLc, iL, iT, iR1, iE, iZ, aSlT, aSlL, aNoP, aPt, wipeE, aIfS, aT, aB, aBO, aC, aSet, aRet, aTup, aLst, aO, dCons, dNil, aCB, aCBO, aOr, aAnd, aNot, aIf, aAndV, aOrV, aNotV, aSkip, aAsg, aAug, ex_vaint, tgN, aCall, gConsA, gNilA, gScA, gTownA, aPar2, aPar3, aV_eq, dI_i, dIC_i, dIx_t, dIx_l, dMin2_i, dMax2_i, dSumT_2, dLen_l, dLen_t, dEq_i, dNe_i, dEq_ni, dEq_in, dIs_i, dIs_n, dIsn_i, dIsn_n, dCat_l, dCatT_t, dListO_l, dListO_t, dTupleO_l, dTupleO_t, tgs2, tgs0, tgt, ite_t, ite_f, ex_l1i, ex_l1l, ex_l2l, ex_l1, ex_l2, ex_l3, ex_int, ex_bool, ex_some, ex_va, ex_ow, ex_sc, ex_list, ex_tuple, at0, at1, at2, at3, ln0, ln1, ln2, ln3, ln4, ln5, ln6, List.cons_append, List.nil_append, List.getElem?_cons_zero, List.getElem?_cons_succ, List.set_cons_zero, List.set_cons_succ, List.length_cons, List.length_nil, true_and, and_true, true_implies, forall_const, Bool.true_eq_false, Bool.false_eq_true, false_implies, decide_eq_true_eq, decide_eq_false_iff_not, Int.sub_self, Int.sub_zero, Int.reduceSub, Int.reduceAdd, Int.reduceNeg, Int.reduceEq, Int.reduceLT, Int.reduceLE, Int.reduceNe, if_true, if_false, reduceIte, decide_true, decide_false, decide_not, Bool.not_true, Bool.not_false, Bool.not_eq_true, Bool.not_eq_false, aIsi, show isiD "list" (.tuple i) = false from rfl, Lr.areCo] at q ⊢
    exact q
  | .dict i, hd, q =>
    simp only [List.map_cons, List.map_nil, aSeq, aLc, iL, iT, iR1, iE, iZ, aSlT, aSlL, aNoP, aPt, wipeE, aIfS, aT, aB, aBO, aC, aSet, aRet, aTup, aLst, aO, dCons, dNil, aCB, aCBO, aOr, aAnd, aNot, aIf, aAndV, aOrV, aNotV, aSkip, aAsg, aAug, ex_vaint, tgN, aCall, gConsA, gNilA, gScA, gTownA, aPar2, aPar3, aV_eq, dI_i, dIC_i, dIx_t, dIx_l, dMin2_i, dMax2_i, dSumT_2, dLen_l, dLen_t, dEq_i, dNe_i, dEq_ni, dEq_in, dIs_i, dIs_n, dIsn_i, dIsn_n, dCat_l, dCatT_t, dListO_l, dListO_t, dTupleO_l, dTupleO_t, tgs2, tgs0, tgt, ite_t, ite_f, ex_l1i, ex_l1l, ex_l2l, ex_l1, ex_l2, ex_l3, ex_int, ex_bool, ex_some, ex_va, ex_ow, ex_sc, ex_list, ex_tuple, at0, at1, at2, at3, ln0, ln1, ln2, ln3, ln4, ln5, ln6, List.cons_append, List.nil_append, List.getElem?_cons_zero, List.getElem?_cons_succ, List.set_cons_zero, List.set_cons_succ, List.length_cons, List.length_nil, true_and, and_true, true_implies, forall_const, Bool.true_eq_false, Bool.false_eq_true, false_implies, decide_eq_true_eq, decide_eq_false_iff_not, Int.sub_self, Int.sub_zero, Int.reduceSub, Int.reduceAdd, Int.reduceNeg, Int.reduceEq, Int.reduceLT, Int.reduceLE, Int.reduceNe, if_true, if_false, reduceIte, decide_true, decide_false, decide_not, Bool.not_true, Bool.not_false, Bool.not_eq_true, Bool.not_eq_false, aIsi, show isiD "list" (.dict i) = false from rfl, Lr.areCo] at q ⊢
    exact q

theorem t_check_comings {f : Addr} {fd : FuncData} (c_are_comings : Cl P w K mg base k "are_comings" 1 Lr.W_are_comings) (F : Fun K "check_comings" "check_comings" s_check_comings f fd) (gm : mg "check_comings" = some (.ref f)) (hb : Binds K fd ["comings"] []) : Cl P w K mg base (k + 1) "check_comings" 1 Lr.W_ck_co := by
  have nd := sc_check_comings.nd
  refine def_ok (N := ["comings"]) (ps := ["comings"]) [] F sc_check_comings gm hb ⟨_, fun cdv A outer s H E hr => have hu := hr.units; have hu2 := units65 hr
    (jss_one (js_if (jt_not (jt_val (j_call c_are_comings hr (ja_cons (jv 0) ja_nil)))) jss_never jss_nil)), fun as Q hl hW => ?_⟩
  obtain ⟨cs, rfl, hc, q⟩ := hW
  have hl : ∀ xs, Lr.coD cs = .list xs → xs.length ≤ 1000 := fun xs e => by
    cases e
    rw [List.length_map]
    have := hc.1
    omega
  simp only [List.map_cons, List.map_nil, aSeq, aLc, iL, iT, iR1, iE, iZ, aSlT, aSlL, aNoP, aPt, wipeE, aIfS, aT, aB, aBO, aC, aSet, aRet, aTup, aLst, aO, dCons, dNil, aCB, aCBO, aOr, aAnd, aNot, aIf, aAndV, aOrV, aNotV, aSkip, aAsg, aAug, ex_vaint, tgN, aCall, gConsA, gNilA, gScA, gTownA, aPar2, aPar3, aV_eq, dI_i, dIC_i, dIx_t, dIx_l, dMin2_i, dMax2_i, dSumT_2, dLen_l, dLen_t, dEq_i, dNe_i, dEq_ni, dEq_in, dIs_i, dIs_n, dIsn_i, dIsn_n, dCat_l, dCatT_t, dListO_l, dListO_t, dTupleO_l, dTupleO_t, tgs2, tgs0, tgt, ite_t, ite_f, ex_l1i, ex_l1l, ex_l2l, ex_l1, ex_l2, ex_l3, ex_int, ex_bool, ex_some, ex_va, ex_ow, ex_sc, ex_list, ex_tuple, at0, at1, at2, at3, ln0, ln1, ln2, ln3, ln4, ln5, ln6, List.cons_append, List.nil_append, List.getElem?_cons_zero, List.getElem?_cons_succ, List.set_cons_zero, List.set_cons_succ, List.length_cons, List.length_nil, true_and, and_true, true_implies, forall_const, Bool.true_eq_false, Bool.false_eq_true, false_implies, decide_eq_true_eq, decide_eq_false_iff_not, Int.sub_self, Int.sub_zero, Int.reduceSub, Int.reduceAdd, Int.reduceNeg, Int.reduceEq, Int.reduceLT, Int.reduceLE, Int.reduceNe, if_true, if_false, reduceIte, decide_true, decide_false, decide_not, Bool.not_true, Bool.not_false, Bool.not_eq_true, Bool.not_eq_false, Lr.W_are_comings_i hl, Lr.areCo_ok hc]
  exact q

theorem t_format_comings {f : Addr} {fd : FuncData} (c_check_comings : Cl P w K mg base k "check_comings" 1 Lr.W_ck_co) (z_str : mg "str" = none) (F : Fun K "format_comings" "format_comings" s_format_comings f fd) (gm : mg "format_comings" = some (.ref f)) (hb : Binds K fd ["comings"] []) : Cl P w K mg base (k + 1) "format_comings" 1 Lr.W_fcom := by
  have nd := sc_format_comings.nd
  refine def_ok (N := ["comings", "coming"]) (ps := ["comings"]) [Sl.un] F sc_format_comings gm hb ⟨_, fun cdv A outer s H E hr => have hu := hr.units; have hu2 := units65 hr
    (jss_cons (js_expr (j_call c_check_comings hr (ja_cons (jv 0) ja_nil)))
  (jss_one (js_ret (j_join j_str (JO.je (j_lc (own := [("coming", 1)]) rfl nd (ji_list (jv 0)) (blkOk_by (N := ["comings", "coming"]) (sc := defScope s_format_comings) (by decide +kernel)) (fun _ _ _ _ _ => pg_name (i := 1) nd rfl (by first | exact Or.inl rfl | exact Or.inr rfl)) simgw_name (fun _ _ _ _ _ => (j_ty (L2.CallR.or call_str_int SkE.call_str_str) sc_strA z_str (by decide +kernel) (jd_cons (jv 1) jd_nil))))))))), fun as Q hl hW => ?_⟩
  obtain ⟨cs, rfl, h, q⟩ := hW
  simp only [List.map_cons, List.map_nil, aSeq, aLc, iL, iT, iR1, iE, iZ, aSlT, aSlL, aNoP, aPt, wipeE, aIfS, aT, aB, aBO, aC, aSet, aRet, aTup, aLst, aO, dCons, dNil, aCB, aCBO, aOr, aAnd, aNot, aIf, aAndV, aOrV, aNotV, aSkip, aAsg, aAug, ex_vaint, tgN, aCall, gConsA, gNilA, gScA, gTownA, aPar2, aPar3, aV_eq, dI_i, dIC_i, dIx_t, dIx_l, dMin2_i, dMax2_i, dSumT_2, dLen_l, dLen_t, dEq_i, dNe_i, dEq_ni, dEq_in, dIs_i, dIs_n, dIsn_i, dIsn_n, dCat_l, dCatT_t, dListO_l, dListO_t, dTupleO_l, dTupleO_t, tgs2, tgs0, tgt, ite_t, ite_f, ex_l1i, ex_l1l, ex_l2l, ex_l1, ex_l2, ex_l3, ex_int, ex_bool, ex_some, ex_va, ex_ow, ex_sc, ex_list, ex_tuple, at0, at1, at2, at3, ln0, ln1, ln2, ln3, ln4, ln5, ln6, List.cons_append, List.nil_append, List.getElem?_cons_zero, List.getElem?_cons_succ, List.set_cons_zero, List.set_cons_succ, List.length_cons, List.length_nil, true_and, and_true, true_implies, forall_const, Bool.true_eq_false, Bool.false_eq_true, false_implies, decide_eq_true_eq, decide_eq_false_iff_not, Int.sub_self, Int.sub_zero, Int.reduceSub, Int.reduceAdd, Int.reduceNeg, Int.reduceEq, Int.reduceLT, Int.reduceLE, Int.reduceNe, if_true, if_false, reduceIte, decide_true, decide_false, decide_not, Bool.not_true, Bool.not_false, Bool.not_eq_true, Bool.not_eq_false, aNiT, aIxT, aGetT, iS, aSlS, aDrop, aNever, Lr.ex_str, Lr.dLenS_s, Lr.dInS_s, Lr.dCatS_s, Lr.W_cstr_i, aJoin, aSplit, tgStarL, dStar]
  have hs : ∀ c ∈ cs, Str.ofString (toString c) = sg (48 + c.toNat) := fun c hc => Lr.str_com (h.2 c hc)
  have hl := h.1
  refine ⟨cs, rfl, h, _, rfl, lineLe (by rw [List.length_map]; omega), ?_⟩
  refine Lr.coll_enc PyData.int (fun c => .str (Str.ofString (toString c))) cs [] (fun c hc N r => ?_) ?_
  · simp only [List.map_cons, List.map_nil, aSeq, aLc, iL, iT, iR1, iE, iZ, aSlT, aSlL, aNoP, aPt, wipeE, aIfS, aT, aB, aBO, aC, aSet, aRet, aTup, aLst, aO, dCons, dNil, aCB, aCBO, aOr, aAnd, aNot, aIf, aAndV, aOrV, aNotV, aSkip, aAsg, aAug, ex_vaint, tgN, aCall, gConsA, gNilA, gScA, gTownA, aPar2, aPar3, aV_eq, dI_i, dIC_i, dIx_t, dIx_l, dMin2_i, dMax2_i, dSumT_2, dLen_l, dLen_t, dEq_i, dNe_i, dEq_ni, dEq_in, dIs_i, dIs_n, dIsn_i, dIsn_n, dCat_l, dCatT_t, dListO_l, dListO_t, dTupleO_l, dTupleO_t, tgs2, tgs0, tgt, ite_t, ite_f, ex_l1i, ex_l1l, ex_l2l, ex_l1, ex_l2, ex_l3, ex_int, ex_bool, ex_some, ex_va, ex_ow, ex_sc, ex_list, ex_tuple, at0, at1, at2, at3, ln0, ln1, ln2, ln3, ln4, ln5, ln6, List.cons_append, List.nil_append, List.getElem?_cons_zero, List.getElem?_cons_succ, List.set_cons_zero, List.set_cons_succ, List.length_cons, List.length_nil, true_and, and_true, true_implies, forall_const, Bool.true_eq_false, Bool.false_eq_true, false_implies, decide_eq_true_eq, decide_eq_false_iff_not, Int.sub_self, Int.sub_zero, Int.reduceSub, Int.reduceAdd, Int.reduceNeg, Int.reduceEq, Int.reduceLT, Int.reduceLE, Int.reduceNe, if_true, if_false, reduceIte, decide_true, decide_false, decide_not, Bool.not_true, Bool.not_false, Bool.not_eq_true, Bool.not_eq_false, aNiT, aIxT, aGetT, iS, aSlS, aDrop, aNever, Lr.ex_str, Lr.dLenS_s, Lr.dInS_s, Lr.dCatS_s, Lr.W_cstr_i, aJoin, aSplit, tgStarL, dStar]
    exact dStrA_i (by have := (h.2 c hc).1; have := (h.2 c hc).2; omega) r
  · refine ⟨cs.map fun c => Str.ofString (toString c), by rw [List.nil_append, List.map_map]; rfl, Lr.signs_fit hs hl, ?_⟩
    have e := Lr.com_join h.2
    rw [show Txt.join (Str.ofString "") (cs.map fun c => Str.ofString (toString c)) = Lr.comS cs from e]
    exact q

theorem t__are_lights {f : Addr} {fd : FuncData} (c_is_number : Cl P w K mg base k "is_number" 3 Lr.W_is_number) (z_len : mg "len" = none) (z_isinstance : mg "isinstance" = none) (z_list : mg "list" = none) (z_all : mg "all" = none) (g_MOST_TICKS : ∃ t, mg "MOST_TICKS" = some (.int 40 t)) (F : Fun K "_are_lights" "_are_lights" s__are_lights f fd) (gm : mg "_are_lights" = some (.ref f)) (hb : Binds K fd ["candidate"] []) : Cl P w K mg base (k + 1) "_are_lights" 1 Lr.W_are_ls := by
  have nd := sc__are_lights.nd
  refine def_ok (N := ["candidate", "light"]) (ps := ["candidate"]) [Sl.un] F sc__are_lights gm hb ⟨_, fun cdv A outer s H E hr => have hu := hr.units; have hu2 := units65 hr
    (jss_cons (js_if (JW.t (jw_or (jt_not (jt_val (j_isi "list" (.inr (.inr (.inr (.inl rfl)))) z_isinstance (by decide +kernel) z_list (by decide +kernel) (jv 0)))) (jw_or1 (jt_gt (j_bi call_len_seq sc_len z_len PySem.boot_len (jd_cons (jv 0) jd_nil)) (j_glob g_MOST_TICKS))))) (jss_one (js_ret j_bl)) jss_nil)
  (jss_one (js_ret (j_bi (cr_all rfl) sc_all z_all (by decide +kernel) (jd_cons (JO.je (j_lc (own := [("light", 1)]) rfl nd (ji_list (jv 0)) (blkOk_by (N := ["candidate", "light"]) (sc := defScope s__are_lights) (by decide +kernel)) (fun _ _ _ _ _ => pg_name (i := 1) nd rfl (by first | exact Or.inl rfl | exact Or.inr rfl)) simgw_name (fun _ _ _ _ _ => (je_or (j_is (jv 1) j_non) (je_one (j_call c_is_number hr (ja_cons (jv 1) (ja_cons j_int (ja_cons j_int ja_nil))))))))) jd_nil))))), fun as Q hl hW => ?_⟩
  obtain ⟨ls, rfl, h, hl, q⟩ := hW
  simp only [List.map_cons, List.map_nil, aSeq, aLc, iL, iT, iR1, iE, iZ, aSlT, aSlL, aNoP, aPt, wipeE, aIfS, aT, aB, aBO, aC, aSet, aRet, aTup, aLst, aO, dCons, dNil, aCB, aCBO, aOr, aAnd, aNot, aIf, aAndV, aOrV, aNotV, aSkip, aAsg, aAug, ex_vaint, tgN, aCall, gConsA, gNilA, gScA, gTownA, aPar2, aPar3, aV_eq, dI_i, dIC_i, dIx_t, dIx_l, dMin2_i, dMax2_i, dSumT_2, dLen_l, dLen_t, dEq_i, dNe_i, dEq_ni, dEq_in, dIs_i, dIs_n, dIsn_i, dIsn_n, dCat_l, dCatT_t, dListO_l, dListO_t, dTupleO_l, dTupleO_t, tgs2, tgs0, tgt, ite_t, ite_f, ex_l1i, ex_l1l, ex_l2l, ex_l1, ex_l2, ex_l3, ex_int, ex_bool, ex_some, ex_va, ex_ow, ex_sc, ex_list, ex_tuple, at0, at1, at2, at3, ln0, ln1, ln2, ln3, ln4, ln5, ln6, List.cons_append, List.nil_append, List.getElem?_cons_zero, List.getElem?_cons_succ, List.set_cons_zero, List.set_cons_succ, List.length_cons, List.length_nil, true_and, and_true, true_implies, forall_const, Bool.true_eq_false, Bool.false_eq_true, false_implies, decide_eq_true_eq, decide_eq_false_iff_not, Int.sub_self, Int.sub_zero, Int.reduceSub, Int.reduceAdd, Int.reduceNeg, Int.reduceEq, Int.reduceLT, Int.reduceLE, Int.reduceNe, if_true, if_false, reduceIte, decide_true, decide_false, decide_not, Bool.not_true, Bool.not_false, Bool.not_eq_true, Bool.not_eq_false, aIsi, Lr.lsD, show isiD "list" (.list (ls.map Lr.Lt.d)) = true from rfl, List.length_map]
  refine ⟨fun z => ?_, fun z => ⟨lineLe hl, Lr.coll_mapT Lr.Lt.d (fun _ => .bool true) ls [] (fun l hm N hN => ?_) ?_⟩⟩
  · rw [decide_eq_false (by omega)] at q
    exact q
  · cases l with
    | dark =>
      simp only [List.map_cons, List.map_nil, aSeq, aLc, iL, iT, iR1, iE, iZ, aSlT, aSlL, aNoP, aPt, wipeE, aIfS, aT, aB, aBO, aC, aSet, aRet, aTup, aLst, aO, dCons, dNil, aCB, aCBO, aOr, aAnd, aNot, aIf, aAndV, aOrV, aNotV, aSkip, aAsg, aAug, ex_vaint, tgN, aCall, gConsA, gNilA, gScA, gTownA, aPar2, aPar3, aV_eq, dI_i, dIC_i, dIx_t, dIx_l, dMin2_i, dMax2_i, dSumT_2, dLen_l, dLen_t, dEq_i, dNe_i, dEq_ni, dEq_in, dIs_i, dIs_n, dIsn_i, dIsn_n, dCat_l, dCatT_t, dListO_l, dListO_t, dTupleO_l, dTupleO_t, tgs2, tgs0, tgt, ite_t, ite_f, ex_l1i, ex_l1l, ex_l2l, ex_l1, ex_l2, ex_l3, ex_int, ex_bool, ex_some, ex_va, ex_ow, ex_sc, ex_list, ex_tuple, at0, at1, at2, at3, ln0, ln1, ln2, ln3, ln4, ln5, ln6, List.cons_append, List.nil_append, List.getElem?_cons_zero, List.getElem?_cons_succ, List.set_cons_zero, List.set_cons_succ, List.length_cons, List.length_nil, true_and, and_true, true_implies, forall_const, Bool.true_eq_false, Bool.false_eq_true, false_implies, decide_eq_true_eq, decide_eq_false_iff_not, Int.sub_self, Int.sub_zero, Int.reduceSub, Int.reduceAdd, Int.reduceNeg, Int.reduceEq, Int.reduceLT, Int.reduceLE, Int.reduceNe, if_true, if_false, reduceIte, decide_true, decide_false, decide_not, Bool.not_true, Bool.not_false, Bool.not_eq_true, Bool.not_eq_false, Lr.Lt.d]
      exact hN
    | r i =>
      have hi := h _ hm i rfl
      have e : Lr.isNum 0 1 (.int i) = true := by
        simp only [Lr.isNum]
        rcases hi with rfl | rfl <;> decide
      simp only [List.map_cons, List.map_nil, aSeq, aLc, iL, iT, iR1, iE, iZ, aSlT, aSlL, aNoP, aPt, wipeE, aIfS, aT, aB, aBO, aC, aSet, aRet, aTup, aLst, aO, dCons, dNil, aCB, aCBO, aOr, aAnd, aNot, aIf, aAndV, aOrV, aNotV, aSkip, aAsg, aAug, ex_vaint, tgN, aCall, gConsA, gNilA, gScA, gTownA, aPar2, aPar3, aV_eq, dI_i, dIC_i, dIx_t, dIx_l, dMin2_i, dMax2_i, dSumT_2, dLen_l, dLen_t, dEq_i, dNe_i, dEq_ni, dEq_in, dIs_i, dIs_n, dIsn_i, dIsn_n, dCat_l, dCatT_t, dListO_l, dListO_t, dTupleO_l, dTupleO_t, tgs2, tgs0, tgt, ite_t, ite_f, ex_l1i, ex_l1l, ex_l2l, ex_l1, ex_l2, ex_l3, ex_int, ex_bool, ex_some, ex_va, ex_ow, ex_sc, ex_list, ex_tuple, at0, at1, at2, at3, ln0, ln1, ln2, ln3, ln4, ln5, ln6, List.cons_append, List.nil_append, List.getElem?_cons_zero, List.getElem?_cons_succ, List.set_cons_zero, List.set_cons_succ, List.length_cons, List.length_nil, true_and, and_true, true_implies, forall_const, Bool.true_eq_false, Bool.false_eq_true, false_implies, decide_eq_true_eq, decide_eq_false_iff_not, Int.sub_self, Int.sub_zero, Int.reduceSub, Int.reduceAdd, Int.reduceNeg, Int.reduceEq, Int.reduceLT, Int.reduceLE, Int.reduceNe, if_true, if_false, reduceIte, decide_true, decide_false, decide_not, Bool.not_true, Bool.not_false, Bool.not_eq_true, Bool.not_eq_false, Lr.Lt.d, Lr.W_is_number_i, e]
      exact hN
  · rw [decide_eq_true (by omega)] at q
    exact ⟨ls.map fun _ => true, by rw [List.map_map]; rfl, by
      have : (ls.map fun _ => true).all id = true := by simp
      rw [this]; exact q⟩

theorem t_check_lights {f : Addr} {fd : FuncData} (c__are_lights : Cl P w K mg base k "_are_lights" 1 Lr.W_are_ls) (F : Fun K "check_lights" "check_lights" s_check_lights f fd) (gm : mg "check_lights" = some (.ref f)) (hb : Binds K fd ["lights"] []) : Cl P w K mg base (k + 1) "check_lights" 1 Lr.W_ck_ls := by
  have nd := sc_check_lights.nd
  refine def_ok (N := ["lights"]) (ps := ["lights"]) [] F sc_check_lights gm hb ⟨_, fun cdv A outer s H E hr => have hu := hr.units; have hu2 := units65 hr
    (jss_one (js_if (jt_not (jt_val (j_call c__are_lights hr (ja_cons (jv 0) ja_nil)))) jss_never jss_nil)), fun as Q hl hW => ?_⟩
  obtain ⟨ls, rfl, h, q⟩ := hW
  have e : decide (ls.length ≤ 40) = true := decide_eq_true h.1
  simp only [List.map_cons, List.map_nil, aSeq, aLc, iL, iT, iR1, iE, iZ, aSlT, aSlL, aNoP, aPt, wipeE, aIfS, aT, aB, aBO, aC, aSet, aRet, aTup, aLst, aO, dCons, dNil, aCB, aCBO, aOr, aAnd, aNot, aIf, aAndV, aOrV, aNotV, aSkip, aAsg, aAug, ex_vaint, tgN, aCall, gConsA, gNilA, gScA, gTownA, aPar2, aPar3, aV_eq, dI_i, dIC_i, dIx_t, dIx_l, dMin2_i, dMax2_i, dSumT_2, dLen_l, dLen_t, dEq_i, dNe_i, dEq_ni, dEq_in, dIs_i, dIs_n, dIsn_i, dIsn_n, dCat_l, dCatT_t, dListO_l, dListO_t, dTupleO_l, dTupleO_t, tgs2, tgs0, tgt, ite_t, ite_f, ex_l1i, ex_l1l, ex_l2l, ex_l1, ex_l2, ex_l3, ex_int, ex_bool, ex_some, ex_va, ex_ow, ex_sc, ex_list, ex_tuple, at0, at1, at2, at3, ln0, ln1, ln2, ln3, ln4, ln5, ln6, List.cons_append, List.nil_append, List.getElem?_cons_zero, List.getElem?_cons_succ, List.set_cons_zero, List.set_cons_succ, List.length_cons, List.length_nil, true_and, and_true, true_implies, forall_const, Bool.true_eq_false, Bool.false_eq_true, false_implies, decide_eq_true_eq, decide_eq_false_iff_not, Int.sub_self, Int.sub_zero, Int.reduceSub, Int.reduceAdd, Int.reduceNeg, Int.reduceEq, Int.reduceLT, Int.reduceLE, Int.reduceNe, if_true, if_false, reduceIte, decide_true, decide_false, decide_not, Bool.not_true, Bool.not_false, Bool.not_eq_true, Bool.not_eq_false, Lr.W_are_ls_i h.2 (Nat.le_trans h.1 (by decide)), e]
  exact q

theorem t_format_lights {f : Addr} {fd : FuncData} (c_check_lights : Cl P w K mg base k "check_lights" 1 Lr.W_ck_ls) (z_str : mg "str" = none) (F : Fun K "format_lights" "format_lights" s_format_lights f fd) (gm : mg "format_lights" = some (.ref f)) (hb : Binds K fd ["lights"] []) : Cl P w K mg base (k + 1) "format_lights" 1 Lr.W_flig := by
  have nd := sc_format_lights.nd
  refine def_ok (N := ["lights", "light"]) (ps := ["lights"]) [Sl.un] F sc_format_lights gm hb ⟨_, fun cdv A outer s H E hr => have hu := hr.units; have hu2 := units65 hr
    (jss_cons (js_expr (j_call c_check_lights hr (ja_cons (jv 0) ja_nil)))
  (jss_one (js_ret (j_join j_str (JO.je (j_lc (own := [("light", 1)]) rfl nd (ji_list (jv 0)) (blkOk_by (N := ["lights", "light"]) (sc := defScope s_format_lights) (by decide +kernel)) (fun _ _ _ _ _ => pg_name (i := 1) nd rfl (by first | exact Or.inl rfl | exact Or.inr rfl)) simgw_name (fun _ _ _ _ _ => (je_if (jt_is (jv 1) j_non) j_str (j_ty (L2.CallR.or call_str_int SkE.call_str_str) sc_strA z_str (by decide +kernel) (jd_cons (jv 1) jd_nil)))))))))), fun as Q hl hW => ?_⟩
  obtain ⟨ls, rfl, h, q⟩ := hW
  simp only [List.map_cons, List.map_nil, aSeq, aLc, iL, iT, iR1, iE, iZ, aSlT, aSlL, aNoP, aPt, wipeE, aIfS, aT, aB, aBO, aC, aSet, aRet, aTup, aLst, aO, dCons, dNil, aCB, aCBO, aOr, aAnd, aNot, aIf, aAndV, aOrV, aNotV, aSkip, aAsg, aAug, ex_vaint, tgN, aCall, gConsA, gNilA, gScA, gTownA, aPar2, aPar3, aV_eq, dI_i, dIC_i, dIx_t, dIx_l, dMin2_i, dMax2_i, dSumT_2, dLen_l, dLen_t, dEq_i, dNe_i, dEq_ni, dEq_in, dIs_i, dIs_n, dIsn_i, dIsn_n, dCat_l, dCatT_t, dListO_l, dListO_t, dTupleO_l, dTupleO_t, tgs2, tgs0, tgt, ite_t, ite_f, ex_l1i, ex_l1l, ex_l2l, ex_l1, ex_l2, ex_l3, ex_int, ex_bool, ex_some, ex_va, ex_ow, ex_sc, ex_list, ex_tuple, at0, at1, at2, at3, ln0, ln1, ln2, ln3, ln4, ln5, ln6, List.cons_append, List.nil_append, List.getElem?_cons_zero, List.getElem?_cons_succ, List.set_cons_zero, List.set_cons_succ, List.length_cons, List.length_nil, true_and, and_true, true_implies, forall_const, Bool.true_eq_false, Bool.false_eq_true, false_implies, decide_eq_true_eq, decide_eq_false_iff_not, Int.sub_self, Int.sub_zero, Int.reduceSub, Int.reduceAdd, Int.reduceNeg, Int.reduceEq, Int.reduceLT, Int.reduceLE, Int.reduceNe, if_true, if_false, reduceIte, decide_true, decide_false, decide_not, Bool.not_true, Bool.not_false, Bool.not_eq_true, Bool.not_eq_false, aNiT, aIxT, aGetT, iS, aSlS, aDrop, aNever, Lr.ex_str, Lr.dLenS_s, Lr.dInS_s, Lr.dCatS_s, Lr.W_cstr_i, aJoin, aSplit, tgStarL, dStar]
  have hs := Lr.lt_sg h
  have hl := h.1
  refine ⟨ls, rfl, h, _, rfl, lineLe (by rw [List.length_map]; omega), ?_⟩
  refine Lr.coll_enc Lr.Lt.d (fun l => .str (Lr.ltS l)) ls [] (fun l hc N r => ?_) ?_
  · cases l with
    | dark =>
      simp only [List.map_cons, List.map_nil, aSeq, aLc, iL, iT, iR1, iE, iZ, aSlT, aSlL, aNoP, aPt, wipeE, aIfS, aT, aB, aBO, aC, aSet, aRet, aTup, aLst, aO, dCons, dNil, aCB, aCBO, aOr, aAnd, aNot, aIf, aAndV, aOrV, aNotV, aSkip, aAsg, aAug, ex_vaint, tgN, aCall, gConsA, gNilA, gScA, gTownA, aPar2, aPar3, aV_eq, dI_i, dIC_i, dIx_t, dIx_l, dMin2_i, dMax2_i, dSumT_2, dLen_l, dLen_t, dEq_i, dNe_i, dEq_ni, dEq_in, dIs_i, dIs_n, dIsn_i, dIsn_n, dCat_l, dCatT_t, dListO_l, dListO_t, dTupleO_l, dTupleO_t, tgs2, tgs0, tgt, ite_t, ite_f, ex_l1i, ex_l1l, ex_l2l, ex_l1, ex_l2, ex_l3, ex_int, ex_bool, ex_some, ex_va, ex_ow, ex_sc, ex_list, ex_tuple, at0, at1, at2, at3, ln0, ln1, ln2, ln3, ln4, ln5, ln6, List.cons_append, List.nil_append, List.getElem?_cons_zero, List.getElem?_cons_succ, List.set_cons_zero, List.set_cons_succ, List.length_cons, List.length_nil, true_and, and_true, true_implies, forall_const, Bool.true_eq_false, Bool.false_eq_true, false_implies, decide_eq_true_eq, decide_eq_false_iff_not, Int.sub_self, Int.sub_zero, Int.reduceSub, Int.reduceAdd, Int.reduceNeg, Int.reduceEq, Int.reduceLT, Int.reduceLE, Int.reduceNe, if_true, if_false, reduceIte, decide_true, decide_false, decide_not, Bool.not_true, Bool.not_false, Bool.not_eq_true, Bool.not_eq_false, aNiT, aIxT, aGetT, iS, aSlS, aDrop, aNever, Lr.ex_str, Lr.dLenS_s, Lr.dInS_s, Lr.dCatS_s, Lr.W_cstr_i, aJoin, aSplit, tgStarL, dStar, Lr.Lt.d]
      exact r
    | r i =>
      simp only [List.map_cons, List.map_nil, aSeq, aLc, iL, iT, iR1, iE, iZ, aSlT, aSlL, aNoP, aPt, wipeE, aIfS, aT, aB, aBO, aC, aSet, aRet, aTup, aLst, aO, dCons, dNil, aCB, aCBO, aOr, aAnd, aNot, aIf, aAndV, aOrV, aNotV, aSkip, aAsg, aAug, ex_vaint, tgN, aCall, gConsA, gNilA, gScA, gTownA, aPar2, aPar3, aV_eq, dI_i, dIC_i, dIx_t, dIx_l, dMin2_i, dMax2_i, dSumT_2, dLen_l, dLen_t, dEq_i, dNe_i, dEq_ni, dEq_in, dIs_i, dIs_n, dIsn_i, dIsn_n, dCat_l, dCatT_t, dListO_l, dListO_t, dTupleO_l, dTupleO_t, tgs2, tgs0, tgt, ite_t, ite_f, ex_l1i, ex_l1l, ex_l2l, ex_l1, ex_l2, ex_l3, ex_int, ex_bool, ex_some, ex_va, ex_ow, ex_sc, ex_list, ex_tuple, at0, at1, at2, at3, ln0, ln1, ln2, ln3, ln4, ln5, ln6, List.cons_append, List.nil_append, List.getElem?_cons_zero, List.getElem?_cons_succ, List.set_cons_zero, List.set_cons_succ, List.length_cons, List.length_nil, true_and, and_true, true_implies, forall_const, Bool.true_eq_false, Bool.false_eq_true, false_implies, decide_eq_true_eq, decide_eq_false_iff_not, Int.sub_self, Int.sub_zero, Int.reduceSub, Int.reduceAdd, Int.reduceNeg, Int.reduceEq, Int.reduceLT, Int.reduceLE, Int.reduceNe, if_true, if_false, reduceIte, decide_true, decide_false, decide_not, Bool.not_true, Bool.not_false, Bool.not_eq_true, Bool.not_eq_false, aNiT, aIxT, aGetT, iS, aSlS, aDrop, aNever, Lr.ex_str, Lr.dLenS_s, Lr.dInS_s, Lr.dCatS_s, Lr.W_cstr_i, aJoin, aSplit, tgStarL, dStar, Lr.Lt.d]
      refine dStrA_i ?_ r
      rcases h.2 _ hc i rfl with rfl | rfl <;> decide
  · refine ⟨ls.map Lr.ltS, by rw [List.nil_append, List.map_map]; rfl, Lr.signs_fit hs hl, ?_⟩
    rw [show Txt.join (Str.ofString "") (ls.map Lr.ltS) = Lr.ligS ls from Lr.lig_join h]
    exact q

theorem t__law_told {f : Addr} {fd : FuncData} (c_is_rule : Cl P w K mg base k "is_rule" 1 Lr.W_is_rule3) (z_len : mg "len" = none) (z_all : mg "all" = none) (z_int : mg "int" = none) (z_tuple : mg "tuple" = none) (F : Fun K "_law_told" "_law_told" s__law_told f fd) (gm : mg "_law_told" = some (.ref f)) (hb : Binds K fd ["_law_text"] []) : Cl P w K mg base (k + 1) "_law_told" 1 Lr.W_told := by
  have nd := sc__law_told.nd
  refine def_ok (N := ["_law_text", "_law_words", "_law_rule_here", "_law_word"]) (ps := ["_law_text"]) [Sl.un, Sl.un, Sl.un] F sc__law_told gm hb ⟨_, fun cdv A outer s H E hr => have hu := hr.units; have hu2 := units65 hr
    (jss_cons (js_set 1 nd (JO.je (jo_split (jv 0) j_str)))
  (jss_cons (js_if (jt_not (jt_val (j_bi (cr_all rfl) sc_all z_all (by decide +kernel) (jd_cons (JO.je (j_lc (own := [("_law_word", 3)]) rfl nd (ji_list (JO.je (j_slL (jv 1) (jp_some j_int) jp_none))) (blkOk_by (N := ["_law_text", "_law_words", "_law_rule_here", "_law_word"]) (sc := defScope s__law_told) (by decide +kernel)) (fun _ _ _ _ _ => pg_name (i := 3) nd rfl (by first | exact Or.inl rfl | exact Or.inr rfl)) simgw_name (fun _ _ _ _ _ => (je_and (j_eq hu (j_bi call_len_str sc_lenS z_len PySem.boot_len (jd_cons (jv 3) jd_nil)) j_int) (je_one (j_inS (jv 3) j_str)))))) jd_nil)))) (jss_one (js_ret j_non)) jss_nil)
  (jss_cons (js_set 2 nd (j_catT (je_tup (jd_cons (j_ix (jv 1) j_int) jd_nil)) (j_ty call_tuple_of sc_tuple z_tuple (by decide +kernel) (jd_cons (JO.je (j_lc (own := [("_law_word", 3)]) rfl nd (ji_list (JO.je (j_slL (jv 1) (jp_some j_int) jp_none))) (blkOk_by (N := ["_law_text", "_law_words", "_law_rule_here", "_law_word"]) (sc := defScope s__law_told) (by decide +kernel)) (fun _ _ _ _ _ => pg_name (i := 3) nd rfl (by first | exact Or.inl rfl | exact Or.inr rfl)) simgw_name (fun _ _ _ _ _ => (j_ty call_int_str sc_intS z_int (by decide +kernel) (jd_cons (jv 3) jd_nil))))) jd_nil))))
  (jss_one (js_ret (je_if (jt_val (j_call c_is_rule hr (ja_cons (jv 2) ja_nil))) (jv 2) j_non)))))), fun as Q hl hW => ?_⟩
  obtain ⟨z, rfl, hz, q⟩ := hW
  obtain ⟨w, fs, e, hl⟩ := Lr.split_ne z
  have e' : Txt.split z (Str.ofString " ") = w :: fs := e
  simp only [List.map_cons, List.map_nil, aSeq, aLc, iL, iT, iR1, iE, iZ, aSlT, aSlL, aNoP, aPt, wipeE, aIfS, aT, aB, aBO, aC, aSet, aRet, aTup, aLst, aO, dCons, dNil, aCB, aCBO, aOr, aAnd, aNot, aIf, aAndV, aOrV, aNotV, aSkip, aAsg, aAug, ex_vaint, tgN, aCall, gConsA, gNilA, gScA, gTownA, aPar2, aPar3, aV_eq, dI_i, dIC_i, dIx_t, dIx_l, dMin2_i, dMax2_i, dSumT_2, dLen_l, dLen_t, dEq_i, dNe_i, dEq_ni, dEq_in, dIs_i, dIs_n, dIsn_i, dIsn_n, dCat_l, dCatT_t, dListO_l, dListO_t, dTupleO_l, dTupleO_t, tgs2, tgs0, tgt, ite_t, ite_f, ex_l1i, ex_l1l, ex_l2l, ex_l1, ex_l2, ex_l3, ex_int, ex_bool, ex_some, ex_va, ex_ow, ex_sc, ex_list, ex_tuple, at0, at1, at2, at3, ln0, ln1, ln2, ln3, ln4, ln5, ln6, List.cons_append, List.nil_append, List.getElem?_cons_zero, List.getElem?_cons_succ, List.set_cons_zero, List.set_cons_succ, List.length_cons, List.length_nil, true_and, and_true, true_implies, forall_const, Bool.true_eq_false, Bool.false_eq_true, false_implies, decide_eq_true_eq, decide_eq_false_iff_not, Int.sub_self, Int.sub_zero, Int.reduceSub, Int.reduceAdd, Int.reduceNeg, Int.reduceEq, Int.reduceLT, Int.reduceLE, Int.reduceNe, if_true, if_false, reduceIte, decide_true, decide_false, decide_not, Bool.not_true, Bool.not_false, Bool.not_eq_true, Bool.not_eq_false, aNiT, aIxT, aGetT, iS, aSlS, aDrop, aNever, Lr.ex_str, Lr.dLenS_s, Lr.dInS_s, Lr.dCatS_s, Lr.W_cstr_i, aJoin, aSplit, tgStarL, dStar]
  rw [e', List.map_cons]
  have ec : Ab.cutD (PyData.str w :: fs.map .str) (some 1) none = fs.map .str := by
    rw [Lr.cut_lo (k := 1) (by decide)]
    rfl
  have hfl : ∀ f ∈ fs, f.length ≤ 800 := fun f hf => Nat.le_trans (Lr.split_len z f (by rw [e]; exact List.mem_cons_of_mem _ hf)) hz
  rw [ec]
  have hq : (fs.all Lr.okW = true → Q (if Lr.isRule (Lr.told z) = true then Lr.told z else .none)) ∧ (fs.all Lr.okW = false → Q .none) := ⟨fun _ => q, fun h => by
    have := Lr.bad_rule e h
    simpa only [Lr.readD, this, Bool.false_eq_true, if_false] using q⟩
  refine ⟨by decide +kernel, lineLe (by omega), lineLe (by rw [List.length_map]; omega), Lr.coll_strs (fun f => .bool (Lr.okW f)) _ _ (fun f hf N r => ?_) ?_⟩
  · have hl := hfl f hf
    have := Lr.okW_and r (lineLe (by omega))
    simpa only [List.map_cons, List.map_nil, aSeq, aLc, iL, iT, iR1, iE, iZ, aSlT, aSlL, aNoP, aPt, wipeE, aIfS, aT, aB, aBO, aC, aSet, aRet, aTup, aLst, aO, dCons, dNil, aCB, aCBO, aOr, aAnd, aNot, aIf, aAndV, aOrV, aNotV, aSkip, aAsg, aAug, ex_vaint, tgN, aCall, gConsA, gNilA, gScA, gTownA, aPar2, aPar3, aV_eq, dI_i, dIC_i, dIx_t, dIx_l, dMin2_i, dMax2_i, dSumT_2, dLen_l, dLen_t, dEq_i, dNe_i, dEq_ni, dEq_in, dIs_i, dIs_n, dIsn_i, dIsn_n, dCat_l, dCatT_t, dListO_l, dListO_t, dTupleO_l, dTupleO_t, tgs2, tgs0, tgt, ite_t, ite_f, ex_l1i, ex_l1l, ex_l2l, ex_l1, ex_l2, ex_l3, ex_int, ex_bool, ex_some, ex_va, ex_ow, ex_sc, ex_list, ex_tuple, at0, at1, at2, at3, ln0, ln1, ln2, ln3, ln4, ln5, ln6, List.cons_append, List.nil_append, List.getElem?_cons_zero, List.getElem?_cons_succ, List.set_cons_zero, List.set_cons_succ, List.length_cons, List.length_nil, true_and, and_true, true_implies, forall_const, Bool.true_eq_false, Bool.false_eq_true, false_implies, decide_eq_true_eq, decide_eq_false_iff_not, Int.sub_self, Int.sub_zero, Int.reduceSub, Int.reduceAdd, Int.reduceNeg, Int.reduceEq, Int.reduceLT, Int.reduceLE, Int.reduceNe, if_true, if_false, reduceIte, decide_true, decide_false, decide_not, Bool.not_true, Bool.not_false, Bool.not_eq_true, Bool.not_eq_false, aNiT, aIxT, aGetT, iS, aSlS, aDrop, aNever, Lr.ex_str, Lr.dLenS_s, Lr.dInS_s, Lr.dCatS_s, Lr.W_cstr_i, aJoin, aSplit, tgStarL, dStar] using this
  · refine ⟨fs.map Lr.okW, by rw [List.nil_append, List.map_map]; rfl, fs.all Lr.okW, by rw [List.all_map]; rfl, fun h => hq.2 (by simpa using h), fun h => ?_⟩
    have h : fs.all Lr.okW = true := by simpa using h
    refine ⟨_, Lr.at0', lineLe (by rw [List.length_map]; omega), Lr.coll_strs (fun f => (lookT Lr.numT f).getD .none) _ _ (fun f hf N r => ?_) ?_⟩
    · obtain ⟨c, rfl, hc⟩ := Lr.look_len (List.all_eq_true.mp h f hf)
      rw [Lr.look_val hc] at r
      simp only [List.map_cons, List.map_nil, aSeq, aLc, iL, iT, iR1, iE, iZ, aSlT, aSlL, aNoP, aPt, wipeE, aIfS, aT, aB, aBO, aC, aSet, aRet, aTup, aLst, aO, dCons, dNil, aCB, aCBO, aOr, aAnd, aNot, aIf, aAndV, aOrV, aNotV, aSkip, aAsg, aAug, ex_vaint, tgN, aCall, gConsA, gNilA, gScA, gTownA, aPar2, aPar3, aV_eq, dI_i, dIC_i, dIx_t, dIx_l, dMin2_i, dMax2_i, dSumT_2, dLen_l, dLen_t, dEq_i, dNe_i, dEq_ni, dEq_in, dIs_i, dIs_n, dIsn_i, dIsn_n, dCat_l, dCatT_t, dListO_l, dListO_t, dTupleO_l, dTupleO_t, tgs2, tgs0, tgt, ite_t, ite_f, ex_l1i, ex_l1l, ex_l2l, ex_l1, ex_l2, ex_l3, ex_int, ex_bool, ex_some, ex_va, ex_ow, ex_sc, ex_list, ex_tuple, at0, at1, at2, at3, ln0, ln1, ln2, ln3, ln4, ln5, ln6, List.cons_append, List.nil_append, List.getElem?_cons_zero, List.getElem?_cons_succ, List.set_cons_zero, List.set_cons_succ, List.length_cons, List.length_nil, true_and, and_true, true_implies, forall_const, Bool.true_eq_false, Bool.false_eq_true, false_implies, decide_eq_true_eq, decide_eq_false_iff_not, Int.sub_self, Int.sub_zero, Int.reduceSub, Int.reduceAdd, Int.reduceNeg, Int.reduceEq, Int.reduceLT, Int.reduceLE, Int.reduceNe, if_true, if_false, reduceIte, decide_true, decide_false, decide_not, Bool.not_true, Bool.not_false, Bool.not_eq_true, Bool.not_eq_false, aNiT, aIxT, aGetT, iS, aSlS, aDrop, aNever, Lr.ex_str, Lr.dLenS_s, Lr.dInS_s, Lr.dCatS_s, Lr.W_cstr_i, aJoin, aSplit, tgStarL, dStar]
      exact ⟨_, _, rfl, Lr.sg_int4 hc, Nat.le_of_ble_eq_true rfl, r⟩
    · rw [List.nil_append]
      have et := Lr.told_eq e
      have hl2 : (fs.map fun f => (lookT Lr.numT f).getD .none).length = fs.length := List.length_map _
      rw [Lr.W_is_rule3_i (by rw [← et]; exact Lr.told_len hz), ← et]
      have q1 := hq.1 h
      refine ⟨lineLe (by omega), _, rfl, fun z1 => ?_, fun z1 => ?_⟩
      · rw [z1, if_pos rfl] at q1; exact q1
      · rw [z1, if_neg (by decide)] at q1; exact q1

theorem t_law {f : Addr} {fd : FuncData} (c__law_comings : Cl P w K mg base k "_law_comings" 3 Lr.W_dcom) (c__law_rule : Cl P w K mg base k "_law_rule" 2 Lr.W_drule) (c__law_draw : Cl P w K mg base k "_law_draw" 3 Lr.W_draw) (c__law_pick : Cl P w K mg base k "_law_pick" 3 Lr.W_pick) (c_format_comings : Cl P w K mg base k "format_comings" 1 Lr.W_fcom) (c_parse_rule : Cl P w K mg base k "parse_rule" 1 Lr.W_prule) (c_format_rule : Cl P w K mg base k "format_rule" 1 Lr.W_frule) (c_parse_lights : Cl P w K mg base k "parse_lights" 1 Lr.W_plig) (c_format_lights : Cl P w K mg base k "format_lights" 1 Lr.W_flig) (c_parse_comings : Cl P w K mg base k "parse_comings" 1 Lr.W_pcom) (c__law_read : Cl P w K mg base k "_law_read" 2 (Lr.W_read K C_LightError C_ParseError)) (c__law_told : Cl P w K mg base k "_law_told" 1 Lr.W_told) (z_range : mg "range" = none) (z_str : mg "str" = none) (z_len : mg "len" = none) (z_all : mg "all" = none) (z_int : mg "int" = none) (i_ParseError : Lr.OkP K C_LightError C_ParseError C_ParseError) (F : Fun K "law" "law" s_law f fd) : FnOk P w K mg base CX0 (k + 1) f fd ["_law_script"] (spA ⟨K, P, w⟩ 1 WLaw) := by
  have nd := sc_law.nd
  refine def_fn (N := ["_law_script", "_law_town", "_law_rule_here", "_law_comings_here", "_law_turn", "_law_lights", "_law_text", "_law_line", "_law_row", "_law_at", "_law_sign", "_law_new", "_law_good", "_law_due", "_law_one", "_law_char"]) (ps := ["_law_script"]) [Sl.un, Sl.un, Sl.un, Sl.un, Sl.un, Sl.un, Sl.un, Sl.un, Sl.un, Sl.un, Sl.un, Sl.un, Sl.un, Sl.un, Sl.un] F sc_law ⟨_, fun cdv A outer s H E hr => have hu := hr.units; have hu2 := units65 hr
    (jss_cons (js_setO 1 nd (jo_lst (jd_cons j_int (jd_cons j_int jd_nil))))
  (jss_twn 1 (jss_cons (js_par2 2 3 rfl nd (jd_cons (j_call c__law_rule hr (ja_sc 0 (ja_town 1 ja_nil))) (jd_cons (j_call c__law_comings hr (ja_sc 0 (ja_town 1 (ja_cons j_int ja_nil)))) jd_nil)))
  (jss_cons (js_setLc 5 (own := [("_law_turn", 4)]) rfl nd (ji_range1 z_range (jd_cons (j_call c__law_draw hr (ja_sc 0 (ja_town 1 (ja_cons j_int ja_nil)))) jd_nil)) (blkOk_by (N := ["_law_script", "_law_town", "_law_rule_here", "_law_comings_here", "_law_turn", "_law_lights", "_law_text", "_law_line", "_law_row", "_law_at", "_law_sign", "_law_new", "_law_good", "_law_due", "_law_one", "_law_char"]) (sc := defScope s_law) (by decide +kernel)) (fun _ _ _ _ _ => pg_name (i := 4) nd rfl (by first | exact Or.inl rfl | exact Or.inr rfl)) simgw_name (fun _ _ _ _ _ => (j_call c__law_pick hr (ja_sc 0 (ja_town 1 (ja_cons (JO.je (jo_lst (jd_cons j_int (jd_cons j_int (jd_cons j_non jd_nil))))) ja_nil))))) (sw_true rfl rfl rfl (by decide +kernel)))
  (jss_cons (js_par2 6 7 rfl nd (jd_cons (j_join j_str (JO.je (j_cat (JO.je (jo_lst (jd_cons (j_ix (jv 2) j_int) jd_nil))) (JO.je (j_lc (own := [("_law_one", 14)]) rfl nd (ji_tup (j_slT (jv 2) (jp_some j_int) jp_none)) (blkOk_by (N := ["_law_script", "_law_town", "_law_rule_here", "_law_comings_here", "_law_turn", "_law_lights", "_law_text", "_law_line", "_law_row", "_law_at", "_law_sign", "_law_new", "_law_good", "_law_due", "_law_one", "_law_char"]) (sc := defScope s_law) (by decide +kernel)) (fun _ _ _ _ _ => pg_name (i := 14) nd rfl (by first | exact Or.inl rfl | exact Or.inr rfl)) simgw_name (fun _ _ _ _ _ => (j_ty (L2.CallR.or call_str_int SkE.call_str_str) sc_strA z_str (by decide +kernel) (jd_cons (jv 14) jd_nil)))))))) (jd_cons (j_join j_str (JO.je (j_lc (own := [("_law_one", 14)]) rfl nd (ji_list (jv 3)) (blkOk_by (N := ["_law_script", "_law_town", "_law_rule_here", "_law_comings_here", "_law_turn", "_law_lights", "_law_text", "_law_line", "_law_row", "_law_at", "_law_sign", "_law_new", "_law_good", "_law_due", "_law_one", "_law_char"]) (sc := defScope s_law) (by decide +kernel)) (fun _ _ _ _ _ => pg_name (i := 14) nd rfl (by first | exact Or.inl rfl | exact Or.inr rfl)) simgw_name (fun _ _ _ _ _ => (j_ty (L2.CallR.or call_str_int SkE.call_str_str) sc_strA z_str (by decide +kernel) (jd_cons (jv 14) jd_nil)))))) jd_nil)))
  (jss_cons (js_set 8 nd (j_join j_str (JO.je (j_lc (own := [("_law_one", 14)]) rfl nd (ji_list (jv 5)) (blkOk_by (N := ["_law_script", "_law_town", "_law_rule_here", "_law_comings_here", "_law_turn", "_law_lights", "_law_text", "_law_line", "_law_row", "_law_at", "_law_sign", "_law_new", "_law_good", "_law_due", "_law_one", "_law_char"]) (sc := defScope s_law) (by decide +kernel)) (fun _ _ _ _ _ => pg_name (i := 14) nd rfl (by first | exact Or.inl rfl | exact Or.inr rfl)) simgw_name (fun _ _ _ _ _ => (je_if (jt_is (jv 14) j_non) j_str (j_ty (L2.CallR.or call_str_int SkE.call_str_str) sc_strA z_str (by decide +kernel) (jd_cons (jv 14) jd_nil))))))))
  (jss_cons (js_if (JW.t (jw_or (jt_ne hu (j_call c_format_rule hr (ja_cons (jv 2) ja_nil)) (jv 6)) (jw_or (jt_ne hu (j_call c_parse_rule hr (ja_cons (jv 6) ja_nil)) (jv 2)) (jw_or1 (jt_ne hu (j_call c_format_comings hr (ja_cons (jv 3) ja_nil)) (jv 7)))))) (jss_one (js_ret j_bl)) jss_nil)
  (jss_cons (js_if (JW.t (jw_or (jt_ne hu (j_call c_parse_comings hr (ja_cons (jv 7) ja_nil)) (jv 3)) (jw_or (jt_ne hu (j_call c_format_lights hr (ja_cons (jv 5) ja_nil)) (jv 8)) (jw_or1 (jt_ne hu (j_call c_parse_lights hr (ja_cons (jv 8) ja_nil)) (jv 5)))))) (jss_one (js_ret j_bl)) jss_nil)
  (jss_cons (js_for PassesOwn.never rfl (ji_range1 z_range (jd_cons j_int jd_nil)) (jg_name 4 nd)
  (jss_cons (js_par2 9 10 rfl nd (jd_cons (j_call c__law_draw hr (ja_sc 0 (ja_town 1 (ja_cons (j_add (j_bi call_len_str sc_lenS z_len PySem.boot_len (jd_cons (jv 6) jd_nil)) j_int) ja_nil)))) (jd_cons (j_call c__law_pick hr (ja_sc 0 (ja_town 1 (ja_cons (JO.je (jo_lst (jd_cons j_str (jd_cons j_str (jd_cons j_str (jd_cons j_str (jd_cons j_str (jd_cons j_str jd_nil)))))))) ja_nil)))) jd_nil)))
  (jss_cons (js_set 11 nd (j_catS (j_catS (j_slS (jv 6) jp_none (jp_some (jv 9))) (jv 10)) (j_slS (jv 6) (jp_some (j_add (jv 9) (j_call c__law_draw hr (ja_sc 0 (ja_town 1 (ja_cons j_int ja_nil)))))) jp_none)))
  (jss_one (js_if (jt_ne hu (j_call c__law_read hr (ja_cons (jv 11) (ja_cons j_int ja_nil))) (j_call c__law_told hr (ja_cons (jv 11) ja_nil))) (jss_one (js_ret j_bl)) jss_nil)))))
  (jss_cons (js_par2 9 10 rfl nd (jd_cons (j_call c__law_draw hr (ja_sc 0 (ja_town 1 (ja_cons (j_add (j_bi call_len_str sc_lenS z_len PySem.boot_len (jd_cons (jv 7) jd_nil)) j_int) ja_nil)))) (jd_cons (j_call c__law_pick hr (ja_sc 0 (ja_town 1 (ja_cons (JO.je (jo_lst (jd_cons j_str (jd_cons j_str (jd_cons j_str (jd_cons j_str (jd_cons j_str jd_nil))))))) ja_nil)))) jd_nil)))
  (jss_cons (js_set 11 nd (j_catS (j_catS (j_slS (jv 7) jp_none (jp_some (jv 9))) (jv 10)) (j_slS (jv 7) (jp_some (j_add (jv 9) j_int)) jp_none)))
  (jss_cons (js_set 12 nd (je_and (j_lt (j_bi call_len_str sc_lenS z_len PySem.boot_len (jd_cons (jv 11) jd_nil)) j_int) (je_one (j_bi (cr_all rfl) sc_all z_all (by decide +kernel) (jd_cons (JO.je (j_lc (own := [("_law_char", 15)]) rfl nd (ji_str (jv 11)) (blkOk_by (N := ["_law_script", "_law_town", "_law_rule_here", "_law_comings_here", "_law_turn", "_law_lights", "_law_text", "_law_line", "_law_row", "_law_at", "_law_sign", "_law_new", "_law_good", "_law_due", "_law_one", "_law_char"]) (sc := defScope s_law) (by decide +kernel)) (fun _ _ _ _ _ => pg_name (i := 15) nd rfl (by first | exact Or.inl rfl | exact Or.inr rfl)) simgw_name (fun _ _ _ _ _ => (j_inS (jv 15) j_str)))) jd_nil)))))
  (jss_cons (js_if (jt_ne hu (j_call c__law_read hr (ja_cons (jv 11) (ja_cons j_int ja_nil))) (je_if (jt_val (jv 12)) (JO.je (j_lc (own := [("_law_char", 15)]) rfl nd (ji_str (jv 11)) (blkOk_by (N := ["_law_script", "_law_town", "_law_rule_here", "_law_comings_here", "_law_turn", "_law_lights", "_law_text", "_law_line", "_law_row", "_law_at", "_law_sign", "_law_new", "_law_good", "_law_due", "_law_one", "_law_char"]) (sc := defScope s_law) (by decide +kernel)) (fun _ _ _ _ _ => pg_name (i := 15) nd rfl (by first | exact Or.inl rfl | exact Or.inr rfl)) simgw_name (fun _ _ _ _ _ => (j_ty call_int_str sc_intS z_int (by decide +kernel) (jd_cons (jv 15) jd_nil))))) j_non)) (jss_one (js_ret j_bl)) jss_nil)
  (jss_cons (js_set 11 nd (j_catS (j_catS (j_slS (jv 8) jp_none (jp_some (jv 9))) (jv 10)) (j_slS (jv 8) (jp_some (j_add (jv 9) j_int)) jp_none)))
  (jss_cons (js_set 12 nd (je_and (j_lt (j_bi call_len_str sc_lenS z_len PySem.boot_len (jd_cons (jv 11) jd_nil)) j_int) (je_one (j_bi (cr_all rfl) sc_all z_all (by decide +kernel) (jd_cons (JO.je (j_lc (own := [("_law_char", 15)]) rfl nd (ji_str (jv 11)) (blkOk_by (N := ["_law_script", "_law_town", "_law_rule_here", "_law_comings_here", "_law_turn", "_law_lights", "_law_text", "_law_line", "_law_row", "_law_at", "_law_sign", "_law_new", "_law_good", "_law_due", "_law_one", "_law_char"]) (sc := defScope s_law) (by decide +kernel)) (fun _ _ _ _ _ => pg_name (i := 15) nd rfl (by first | exact Or.inl rfl | exact Or.inr rfl)) simgw_name (fun _ _ _ _ _ => (j_inS (jv 15) j_str)))) jd_nil)))))
  (jss_cons (js_set 13 nd (je_if (jt_val (jv 12)) (JO.je (j_lc (own := [("_law_char", 15)]) rfl nd (ji_str (jv 11)) (blkOk_by (N := ["_law_script", "_law_town", "_law_rule_here", "_law_comings_here", "_law_turn", "_law_lights", "_law_text", "_law_line", "_law_row", "_law_at", "_law_sign", "_law_new", "_law_good", "_law_due", "_law_one", "_law_char"]) (sc := defScope s_law) (by decide +kernel)) (fun _ _ _ _ _ => pg_name (i := 15) nd rfl (by first | exact Or.inl rfl | exact Or.inr rfl)) simgw_name (fun _ _ _ _ _ => (je_if (jt_eq hu (jv 15) j_str) j_non (j_ty call_int_str sc_intS z_int (by decide +kernel) (jd_cons (jv 15) jd_nil)))))) j_non))
  (jss_one (js_ret (j_eq hu (j_call c__law_read hr (ja_cons (jv 11) (ja_cons j_int ja_nil))) (jv 13)))))))))))))))))))), fun as Q hl hW => ?_⟩
  obtain ⟨ns, rfl, hn, q⟩ := hW
  simp only [aFor, iR1, List.map_cons, List.map_nil, aSeq, aLc, iL, iT, iR1, iE, iZ, aSlT, aSlL, aNoP, aPt, wipeE, aIfS, aT, aB, aBO, aC, aSet, aRet, aTup, aLst, aO, dCons, dNil, aCB, aCBO, aOr, aAnd, aNot, aIf, aAndV, aOrV, aNotV, aSkip, aAsg, aAug, ex_vaint, tgN, aCall, gConsA, gNilA, gScA, gTownA, aPar2, aPar3, aV_eq, dI_i, dIC_i, dIx_t, dIx_l, dMin2_i, dMax2_i, dSumT_2, dLen_l, dLen_t, dEq_i, dNe_i, dEq_ni, dEq_in, dIs_i, dIs_n, dIsn_i, dIsn_n, dCat_l, dCatT_t, dListO_l, dListO_t, dTupleO_l, dTupleO_t, tgs2, tgs0, tgt, ite_t, ite_f, ex_l1i, ex_l1l, ex_l2l, ex_l1, ex_l2, ex_l3, ex_int, ex_bool, ex_some, ex_va, ex_ow, ex_sc, ex_list, ex_tuple, at0, at1, at2, at3, ln0, ln1, ln2, ln3, ln4, ln5, ln6, List.cons_append, List.nil_append, List.getElem?_cons_zero, List.getElem?_cons_succ, List.set_cons_zero, List.set_cons_succ, List.length_cons, List.length_nil, true_and, and_true, true_implies, forall_const, Bool.true_eq_false, Bool.false_eq_true, false_implies, decide_eq_true_eq, decide_eq_false_iff_not, Int.sub_self, Int.sub_zero, Int.reduceSub, Int.reduceAdd, Int.reduceNeg, Int.reduceEq, Int.reduceLT, Int.reduceLE, Int.reduceNe, if_true, if_false, reduceIte, decide_true, decide_false, decide_not, Bool.not_true, Bool.not_false, Bool.not_eq_true, Bool.not_eq_false, aSetO, aTwn, ex_ow, Lr.ex_tw0, Lr.dIx_cr0, Lr.dIx_cr1, Lr.W_dcross_i, Lr.W_drule_i, Lr.W_dcom_40, Lr.W_draw_2, Lr.W_draw_3, Lr.W_draw_4, Lr.W_draw_8, Lr.W_draw_9, aNiT, aIxT, aGetT, iS, aSlS, aDrop, aNever, Lr.ex_str, Lr.dLenS_s, Lr.dInS_s, Lr.dCatS_s, Lr.W_cstr_i, aJoin, aSplit, tgStarL, dStar]
  intro rule hr cs hc
  refine ⟨ns, 41, rfl, by decide, by decide, fun n n0 n1 => ⟨n, rfl, by omega, by omega, lineLe (by rw [List.length_map, List.length_range]; omega), ?_⟩⟩
  refine Lr.coll_lts (by omega) (fun d N r => ?_) (fun ls hls => ?_)
  · simp only [List.map_cons, List.map_nil, aSeq, aLc, iL, iT, iR1, iE, iZ, aSlT, aSlL, aNoP, aPt, wipeE, aIfS, aT, aB, aBO, aC, aSet, aRet, aTup, aLst, aO, dCons, dNil, aCB, aCBO, aOr, aAnd, aNot, aIf, aAndV, aOrV, aNotV, aSkip, aAsg, aAug, ex_vaint, tgN, aCall, gConsA, gNilA, gScA, gTownA, aPar2, aPar3, aV_eq, dI_i, dIC_i, dIx_t, dIx_l, dMin2_i, dMax2_i, dSumT_2, dLen_l, dLen_t, dEq_i, dNe_i, dEq_ni, dEq_in, dIs_i, dIs_n, dIsn_i, dIsn_n, dCat_l, dCatT_t, dListO_l, dListO_t, dTupleO_l, dTupleO_t, tgs2, tgs0, tgt, ite_t, ite_f, ex_l1i, ex_l1l, ex_l2l, ex_l1, ex_l2, ex_l3, ex_int, ex_bool, ex_some, ex_va, ex_ow, ex_sc, ex_list, ex_tuple, at0, at1, at2, at3, ln0, ln1, ln2, ln3, ln4, ln5, ln6, List.cons_append, List.nil_append, List.getElem?_cons_zero, List.getElem?_cons_succ, List.set_cons_zero, List.set_cons_succ, List.length_cons, List.length_nil, true_and, and_true, true_implies, forall_const, Bool.true_eq_false, Bool.false_eq_true, false_implies, decide_eq_true_eq, decide_eq_false_iff_not, Int.sub_self, Int.sub_zero, Int.reduceSub, Int.reduceAdd, Int.reduceNeg, Int.reduceEq, Int.reduceLT, Int.reduceLE, Int.reduceNe, if_true, if_false, reduceIte, decide_true, decide_false, decide_not, Bool.not_true, Bool.not_false, Bool.not_eq_true, Bool.not_eq_false]
    refine ⟨ns, _, rfl, by simp, by decide, fun x hx => ?_⟩
    simp only [List.mem_cons, List.not_mem_nil, or_false] at hx
    rcases hx with rfl | rfl | rfl
    · exact r (.r 0) (.inl rfl)
    · exact r (.r 1) (.inr (.inl rfl))
    · exact r .dark (.inr (.inr rfl))
  obtain ⟨w, nd2, er, ew, hl2, hi⟩ := Lr.rule_split hr
  have hcs : ∀ c ∈ cs, Str.ofString (toString c) = sg (48 + c.toNat) := fun c h => Lr.str_com (hc.2 c h)
  have hll := hls.1
  have hcl := hc.1
  have ec : Ab.cutD (PyData.str w :: nd2) (some 1) none = nd2 := by
    rw [Lr.cut_lo (k := 1) (by decide)]
    rfl
  show dIx rule.d (.int 0) _
  rw [er]
  simp only [List.map_cons, List.map_nil, aSeq, aLc, iL, iT, iR1, iE, iZ, aSlT, aSlL, aNoP, aPt, wipeE, aIfS, aT, aB, aBO, aC, aSet, aRet, aTup, aLst, aO, dCons, dNil, aCB, aCBO, aOr, aAnd, aNot, aIf, aAndV, aOrV, aNotV, aSkip, aAsg, aAug, ex_vaint, tgN, aCall, gConsA, gNilA, gScA, gTownA, aPar2, aPar3, aV_eq, dI_i, dIC_i, dIx_t, dIx_l, dMin2_i, dMax2_i, dSumT_2, dLen_l, dLen_t, dEq_i, dNe_i, dEq_ni, dEq_in, dIs_i, dIs_n, dIsn_i, dIsn_n, dCat_l, dCatT_t, dListO_l, dListO_t, dTupleO_l, dTupleO_t, tgs2, tgs0, tgt, ite_t, ite_f, ex_l1i, ex_l1l, ex_l2l, ex_l1, ex_l2, ex_l3, ex_int, ex_bool, ex_some, ex_va, ex_ow, ex_sc, ex_list, ex_tuple, at0, at1, at2, at3, ln0, ln1, ln2, ln3, ln4, ln5, ln6, List.cons_append, List.nil_append, List.getElem?_cons_zero, List.getElem?_cons_succ, List.set_cons_zero, List.set_cons_succ, List.length_cons, List.length_nil, true_and, and_true, true_implies, forall_const, Bool.true_eq_false, Bool.false_eq_true, false_implies, decide_eq_true_eq, decide_eq_false_iff_not, Int.sub_self, Int.sub_zero, Int.reduceSub, Int.reduceAdd, Int.reduceNeg, Int.reduceEq, Int.reduceLT, Int.reduceLE, Int.reduceNe, if_true, if_false, reduceIte, decide_true, decide_false, decide_not, Bool.not_true, Bool.not_false, Bool.not_eq_true, Bool.not_eq_false]
  rw [ec]
  refine ⟨lineLe (by omega), coll_map (fun d => .str (Lr.txD d)) nd2 [] (fun d hd N r => ?_) ?_⟩
  · simp only [List.map_cons, List.map_nil, aSeq, aLc, iL, iT, iR1, iE, iZ, aSlT, aSlL, aNoP, aPt, wipeE, aIfS, aT, aB, aBO, aC, aSet, aRet, aTup, aLst, aO, dCons, dNil, aCB, aCBO, aOr, aAnd, aNot, aIf, aAndV, aOrV, aNotV, aSkip, aAsg, aAug, ex_vaint, tgN, aCall, gConsA, gNilA, gScA, gTownA, aPar2, aPar3, aV_eq, dI_i, dIC_i, dIx_t, dIx_l, dMin2_i, dMax2_i, dSumT_2, dLen_l, dLen_t, dEq_i, dNe_i, dEq_ni, dEq_in, dIs_i, dIs_n, dIsn_i, dIsn_n, dCat_l, dCatT_t, dListO_l, dListO_t, dTupleO_l, dTupleO_t, tgs2, tgs0, tgt, ite_t, ite_f, ex_l1i, ex_l1l, ex_l2l, ex_l1, ex_l2, ex_l3, ex_int, ex_bool, ex_some, ex_va, ex_ow, ex_sc, ex_list, ex_tuple, at0, at1, at2, at3, ln0, ln1, ln2, ln3, ln4, ln5, ln6, List.cons_append, List.nil_append, List.getElem?_cons_zero, List.getElem?_cons_succ, List.set_cons_zero, List.set_cons_succ, List.length_cons, List.length_nil, true_and, and_true, true_implies, forall_const, Bool.true_eq_false, Bool.false_eq_true, false_implies, decide_eq_true_eq, decide_eq_false_iff_not, Int.sub_self, Int.sub_zero, Int.reduceSub, Int.reduceAdd, Int.reduceNeg, Int.reduceEq, Int.reduceLT, Int.reduceLE, Int.reduceNe, if_true, if_false, reduceIte, decide_true, decide_false, decide_not, Bool.not_true, Bool.not_false, Bool.not_eq_true, Bool.not_eq_false]
    exact Lr.dStr_d (.inl (hi d hd)) r
  rw [List.nil_append]
  have fit := Lr.rule_fit hr
  rw [ew] at fit
  refine ⟨lineLe (by rw [List.length_map]; omega), w :: nd2.map Lr.txD, by rw [List.map_cons, List.map_map]; rfl, fit, _, rfl, lineLe (by rw [List.length_map]; omega), ?_⟩
  have eru : Txt.join (Str.ofString " ") (w :: nd2.map Lr.txD) = Lr.ruleS rule := by
    rw [← ew]; rfl
  rw [eru, ← er]
  refine Lr.coll_enc PyData.int (fun c => .str (Str.ofString (toString c))) cs [] (fun c h N r => ?_) ?_
  · simp only [List.map_cons, List.map_nil, aSeq, aLc, iL, iT, iR1, iE, iZ, aSlT, aSlL, aNoP, aPt, wipeE, aIfS, aT, aB, aBO, aC, aSet, aRet, aTup, aLst, aO, dCons, dNil, aCB, aCBO, aOr, aAnd, aNot, aIf, aAndV, aOrV, aNotV, aSkip, aAsg, aAug, ex_vaint, tgN, aCall, gConsA, gNilA, gScA, gTownA, aPar2, aPar3, aV_eq, dI_i, dIC_i, dIx_t, dIx_l, dMin2_i, dMax2_i, dSumT_2, dLen_l, dLen_t, dEq_i, dNe_i, dEq_ni, dEq_in, dIs_i, dIs_n, dIsn_i, dIsn_n, dCat_l, dCatT_t, dListO_l, dListO_t, dTupleO_l, dTupleO_t, tgs2, tgs0, tgt, ite_t, ite_f, ex_l1i, ex_l1l, ex_l2l, ex_l1, ex_l2, ex_l3, ex_int, ex_bool, ex_some, ex_va, ex_ow, ex_sc, ex_list, ex_tuple, at0, at1, at2, at3, ln0, ln1, ln2, ln3, ln4, ln5, ln6, List.cons_append, List.nil_append, List.getElem?_cons_zero, List.getElem?_cons_succ, List.set_cons_zero, List.set_cons_succ, List.length_cons, List.length_nil, true_and, and_true, true_implies, forall_const, Bool.true_eq_false, Bool.false_eq_true, false_implies, decide_eq_true_eq, decide_eq_false_iff_not, Int.sub_self, Int.sub_zero, Int.reduceSub, Int.reduceAdd, Int.reduceNeg, Int.reduceEq, Int.reduceLT, Int.reduceLE, Int.reduceNe, if_true, if_false, reduceIte, decide_true, decide_false, decide_not, Bool.not_true, Bool.not_false, Bool.not_eq_true, Bool.not_eq_false]
    exact dStrA_i (by have := (hc.2 c h).1; have := (hc.2 c h).2; omega) r
  refine ⟨cs.map fun c => Str.ofString (toString c), by rw [List.nil_append, List.map_map]; rfl, Lr.signs_fit hcs hcl, lineLe (by rw [List.length_map]; omega), ?_⟩
  rw [show Txt.join (Str.ofString "") (cs.map fun c => Str.ofString (toString c)) = Lr.comS cs from Lr.com_join hc.2]
  refine Lr.coll_enc Lr.Lt.d (fun l => .str (Lr.ltS l)) ls [] (fun l h N r => ?_) ?_
  · cases l with
    | dark =>
      simp only [List.map_cons, List.map_nil, aSeq, aLc, iL, iT, iR1, iE, iZ, aSlT, aSlL, aNoP, aPt, wipeE, aIfS, aT, aB, aBO, aC, aSet, aRet, aTup, aLst, aO, dCons, dNil, aCB, aCBO, aOr, aAnd, aNot, aIf, aAndV, aOrV, aNotV, aSkip, aAsg, aAug, ex_vaint, tgN, aCall, gConsA, gNilA, gScA, gTownA, aPar2, aPar3, aV_eq, dI_i, dIC_i, dIx_t, dIx_l, dMin2_i, dMax2_i, dSumT_2, dLen_l, dLen_t, dEq_i, dNe_i, dEq_ni, dEq_in, dIs_i, dIs_n, dIsn_i, dIsn_n, dCat_l, dCatT_t, dListO_l, dListO_t, dTupleO_l, dTupleO_t, tgs2, tgs0, tgt, ite_t, ite_f, ex_l1i, ex_l1l, ex_l2l, ex_l1, ex_l2, ex_l3, ex_int, ex_bool, ex_some, ex_va, ex_ow, ex_sc, ex_list, ex_tuple, at0, at1, at2, at3, ln0, ln1, ln2, ln3, ln4, ln5, ln6, List.cons_append, List.nil_append, List.getElem?_cons_zero, List.getElem?_cons_succ, List.set_cons_zero, List.set_cons_succ, List.length_cons, List.length_nil, true_and, and_true, true_implies, forall_const, Bool.true_eq_false, Bool.false_eq_true, false_implies, decide_eq_true_eq, decide_eq_false_iff_not, Int.sub_self, Int.sub_zero, Int.reduceSub, Int.reduceAdd, Int.reduceNeg, Int.reduceEq, Int.reduceLT, Int.reduceLE, Int.reduceNe, if_true, if_false, reduceIte, decide_true, decide_false, decide_not, Bool.not_true, Bool.not_false, Bool.not_eq_true, Bool.not_eq_false, Lr.Lt.d]
      exact r
    | r i =>
      simp only [List.map_cons, List.map_nil, aSeq, aLc, iL, iT, iR1, iE, iZ, aSlT, aSlL, aNoP, aPt, wipeE, aIfS, aT, aB, aBO, aC, aSet, aRet, aTup, aLst, aO, dCons, dNil, aCB, aCBO, aOr, aAnd, aNot, aIf, aAndV, aOrV, aNotV, aSkip, aAsg, aAug, ex_vaint, tgN, aCall, gConsA, gNilA, gScA, gTownA, aPar2, aPar3, aV_eq, dI_i, dIC_i, dIx_t, dIx_l, dMin2_i, dMax2_i, dSumT_2, dLen_l, dLen_t, dEq_i, dNe_i, dEq_ni, dEq_in, dIs_i, dIs_n, dIsn_i, dIsn_n, dCat_l, dCatT_t, dListO_l, dListO_t, dTupleO_l, dTupleO_t, tgs2, tgs0, tgt, ite_t, ite_f, ex_l1i, ex_l1l, ex_l2l, ex_l1, ex_l2, ex_l3, ex_int, ex_bool, ex_some, ex_va, ex_ow, ex_sc, ex_list, ex_tuple, at0, at1, at2, at3, ln0, ln1, ln2, ln3, ln4, ln5, ln6, List.cons_append, List.nil_append, List.getElem?_cons_zero, List.getElem?_cons_succ, List.set_cons_zero, List.set_cons_succ, List.length_cons, List.length_nil, true_and, and_true, true_implies, forall_const, Bool.true_eq_false, Bool.false_eq_true, false_implies, decide_eq_true_eq, decide_eq_false_iff_not, Int.sub_self, Int.sub_zero, Int.reduceSub, Int.reduceAdd, Int.reduceNeg, Int.reduceEq, Int.reduceLT, Int.reduceLE, Int.reduceNe, if_true, if_false, reduceIte, decide_true, decide_false, decide_not, Bool.not_true, Bool.not_false, Bool.not_eq_true, Bool.not_eq_false, Lr.Lt.d]
      refine dStrA_i ?_ r
      rcases hls.2 _ h i rfl with rfl | rfl <;> decide
  refine ⟨ls.map Lr.ltS, by rw [List.nil_append, List.map_map]; rfl, Lr.signs_fit (Lr.lt_sg hls) hll, ?_⟩
  rw [show Txt.join (Str.ofString "") (ls.map Lr.ltS) = Lr.ligS ls from Lr.lig_join hls]
  have hrl := Lr.rule_l hr
  have hcoml := Lr.com_l hc
  have hligl := Lr.lig_l hls
  refine ⟨rule, rfl, hr, Lr.dNe_same (n := 1) (Sh.str (Lr.rule_so hr)) rfl ⟨_, rfl, fun z => (by cases z), fun _ => ?_⟩⟩
  have hrt := Lr.rule_told hr
  refine ⟨_, rfl, by omega, by rw [hrt]; exact Lr.isRule_ok hr, ?_⟩
  rw [hrt]
  refine Lr.dNe_same (n := 2) ((Lr.Rule.sh rule).mono (by decide)) rfl ⟨_, rfl, fun z => (by cases z), fun _ => ?_⟩
  refine ⟨cs, rfl, hc, Lr.dNe_same (n := 1) (Sh.str (Lr.ok_com hc.2)) rfl ⟨_, rfl, fun z => (by cases z), fun _ => ?_⟩⟩
  refine ⟨_, rfl, Lr.com_sgn hc, ?_⟩
  rw [Lr.com_digs hc]
  refine Lr.dNe_same (n := 2) (Sh.list (Sh.map fun _ _ => Sh.int)) rfl ⟨_, rfl, fun z => (by cases z), fun _ => ?_⟩
  refine ⟨ls, rfl, hls, Lr.dNe_same (n := 1) (Sh.str (Lr.ok_lig hls)) rfl ⟨_, rfl, fun z => (by cases z), fun _ => ?_⟩⟩
  refine ⟨_, rfl, Lr.lig_sgn hls, ?_⟩
  rw [Lr.lig_ligs hls]
  refine Lr.dNe_same (n := 2) (Lr.sh_lts ls) rfl ⟨_, rfl, fun z => (by cases z), fun _ => ?_⟩
  refine loop_inv (fun _ env => ∃ x4 x9 x10 x11, env = [.sc ns, .tw, .va rule.d, .va (Lr.coD cs), x4, .va (.list (ls.map Lr.Lt.d)), .va (.str (Lr.ruleS rule)), .va (.str (Lr.comS cs)), .va (.str (Lr.ligS ls)), x9, x10, x11, .un, .un, .un, .un]) (fun d ds env N h hN => ?_) (fun env h => ?_) _ _ ⟨_, _, _, _, rfl⟩
  · obtain ⟨x4, x9, x10, x11, rfl⟩ := h
    simp only [List.map_cons, List.map_nil, aSeq, aLc, iL, iT, iR1, iE, iZ, aSlT, aSlL, aNoP, aPt, wipeE, aIfS, aT, aB, aBO, aC, aSet, aRet, aTup, aLst, aO, dCons, dNil, aCB, aCBO, aOr, aAnd, aNot, aIf, aAndV, aOrV, aNotV, aSkip, aAsg, aAug, ex_vaint, tgN, aCall, gConsA, gNilA, gScA, gTownA, aPar2, aPar3, aV_eq, dI_i, dIC_i, dIx_t, dIx_l, dMin2_i, dMax2_i, dSumT_2, dLen_l, dLen_t, dEq_i, dNe_i, dEq_ni, dEq_in, dIs_i, dIs_n, dIsn_i, dIsn_n, dCat_l, dCatT_t, dListO_l, dListO_t, dTupleO_l, dTupleO_t, tgs2, tgs0, tgt, ite_t, ite_f, ex_l1i, ex_l1l, ex_l2l, ex_l1, ex_l2, ex_l3, ex_int, ex_bool, ex_some, ex_va, ex_ow, ex_sc, ex_list, ex_tuple, at0, at1, at2, at3, ln0, ln1, ln2, ln3, ln4, ln5, ln6, List.cons_append, List.nil_append, List.getElem?_cons_zero, List.getElem?_cons_succ, List.set_cons_zero, List.set_cons_succ, List.length_cons, List.length_nil, true_and, and_true, true_implies, forall_const, Bool.true_eq_false, Bool.false_eq_true, false_implies, decide_eq_true_eq, decide_eq_false_iff_not, Int.sub_self, Int.sub_zero, Int.reduceSub, Int.reduceAdd, Int.reduceNeg, Int.reduceEq, Int.reduceLT, Int.reduceLE, Int.reduceNe, if_true, if_false, reduceIte, decide_true, decide_false, decide_not, Bool.not_true, Bool.not_false, Bool.not_eq_true, Bool.not_eq_false, aNiT, aIxT, aGetT, iS, aSlS, aDrop, aNever, Lr.ex_str, Lr.dLenS_s, Lr.dInS_s, Lr.dCatS_s, Lr.W_cstr_i, aJoin, aSplit, tgStarL, dStar]
    refine ⟨lineLe (by omega), ns, _, rfl, by omega, by omega, fun at_ a0 a1 => ⟨ns, _, rfl, by simp, by decide, fun x hx => ?_⟩⟩
    have hx : ∃ t : Str, x = .str t ∧ t.length ≤ 2 := by
      simp only [List.mem_cons, List.not_mem_nil, or_false] at hx
      rcases hx with rfl | rfl | rfl | rfl | rfl | rfl <;> exact ⟨_, rfl, by decide⟩
    obtain ⟨t, rfl, ht⟩ := hx
    simp only [List.map_cons, List.map_nil, aSeq, aLc, iL, iT, iR1, iE, iZ, aSlT, aSlL, aNoP, aPt, wipeE, aIfS, aT, aB, aBO, aC, aSet, aRet, aTup, aLst, aO, dCons, dNil, aCB, aCBO, aOr, aAnd, aNot, aIf, aAndV, aOrV, aNotV, aSkip, aAsg, aAug, ex_vaint, tgN, aCall, gConsA, gNilA, gScA, gTownA, aPar2, aPar3, aV_eq, dI_i, dIC_i, dIx_t, dIx_l, dMin2_i, dMax2_i, dSumT_2, dLen_l, dLen_t, dEq_i, dNe_i, dEq_ni, dEq_in, dIs_i, dIs_n, dIsn_i, dIsn_n, dCat_l, dCatT_t, dListO_l, dListO_t, dTupleO_l, dTupleO_t, tgs2, tgs0, tgt, ite_t, ite_f, ex_l1i, ex_l1l, ex_l2l, ex_l1, ex_l2, ex_l3, ex_int, ex_bool, ex_some, ex_va, ex_ow, ex_sc, ex_list, ex_tuple, at0, at1, at2, at3, ln0, ln1, ln2, ln3, ln4, ln5, ln6, List.cons_append, List.nil_append, List.getElem?_cons_zero, List.getElem?_cons_succ, List.set_cons_zero, List.set_cons_succ, List.length_cons, List.length_nil, true_and, and_true, true_implies, forall_const, Bool.true_eq_false, Bool.false_eq_true, false_implies, decide_eq_true_eq, decide_eq_false_iff_not, Int.sub_self, Int.sub_zero, Int.reduceSub, Int.reduceAdd, Int.reduceNeg, Int.reduceEq, Int.reduceLT, Int.reduceLE, Int.reduceNe, if_true, if_false, reduceIte, decide_true, decide_false, decide_not, Bool.not_true, Bool.not_false, Bool.not_eq_true, Bool.not_eq_false, aNiT, aIxT, aGetT, iS, aSlS, aDrop, aNever, Lr.ex_str, Lr.dLenS_s, Lr.dInS_s, Lr.dCatS_s, Lr.W_cstr_i, aJoin, aSplit, tgStarL, dStar]
    have l1 := Lr.cut_l (Lr.ruleS rule) none (some at_)
    refine ⟨lineLe (by omega), lineLe (by omega), ns, 2, rfl, by decide, by decide, fun m m0 m1 => ⟨_, _, rfl, rfl, _, rfl, lineLe (by omega), ?_⟩⟩
    have l2 := Lr.cut_l (Lr.ruleS rule) (some (at_ + m)) none
    refine ⟨lineLe (by rw [Lr.app_l]; omega), ?_⟩
    generalize hz : (cutS (Lr.ruleS rule) none (some at_) ++ t ++ cutS (Lr.ruleS rule) (some (at_ + m)) none) = z
    have lz : z.length ≤ 800 := by
      rw [← hz, Lr.app_l, Lr.app_l]; omega
    exact ⟨z, 2, rfl, by decide, lz, i_ParseError, z, rfl, lz, Lr.dNe_same (Lr.sh_read 2 z) rfl ⟨_, rfl, fun h => (by cases h), fun _ => hN _ ⟨_, _, _, _, rfl⟩⟩⟩
  obtain ⟨x4, x9, x10, x11, rfl⟩ := h
  simp only [List.map_cons, List.map_nil, aSeq, aLc, iL, iT, iR1, iE, iZ, aSlT, aSlL, aNoP, aPt, wipeE, aIfS, aT, aB, aBO, aC, aSet, aRet, aTup, aLst, aO, dCons, dNil, aCB, aCBO, aOr, aAnd, aNot, aIf, aOrV, aNotV, aSkip, aAsg, aAug, ex_vaint, tgN, aCall, gConsA, gNilA, gScA, gTownA, aPar2, aPar3, aV_eq, dI_i, dIC_i, dIx_t, dIx_l, dMin2_i, dMax2_i, dSumT_2, dLen_l, dLen_t, dEq_i, dNe_i, dEq_ni, dEq_in, dIs_i, dIs_n, dIsn_i, dIsn_n, dCat_l, dCatT_t, dListO_l, dListO_t, dTupleO_l, dTupleO_t, tgs2, tgs0, tgt, ite_t, ite_f, ex_l1i, ex_l1l, ex_l2l, ex_l1, ex_l2, ex_l3, ex_int, ex_bool, ex_some, ex_va, ex_ow, ex_sc, ex_list, ex_tuple, at0, at1, at2, at3, ln0, ln1, ln2, ln3, ln4, ln5, ln6, List.cons_append, List.nil_append, List.getElem?_cons_zero, List.getElem?_cons_succ, List.set_cons_zero, List.set_cons_succ, List.length_cons, List.length_nil, true_and, and_true, true_implies, forall_const, Bool.true_eq_false, Bool.false_eq_true, false_implies, decide_eq_true_eq, decide_eq_false_iff_not, Int.sub_self, Int.sub_zero, Int.reduceSub, Int.reduceAdd, Int.reduceNeg, Int.reduceEq, Int.reduceLT, Int.reduceLE, Int.reduceNe, if_true, if_false, reduceIte, decide_true, decide_false, decide_not, Bool.not_true, Bool.not_false, Bool.not_eq_true, Bool.not_eq_false, aNiT, aIxT, aGetT, iS, aSlS, aDrop, aNever, Lr.ex_str, Lr.dLenS_s, Lr.dInS_s, Lr.dCatS_s, Lr.W_cstr_i, aJoin, aSplit, tgStarL, dStar]
  refine ⟨lineLe (by omega), ns, _, rfl, by omega, by omega, fun at_ a0 a1 => ⟨ns, _, rfl, by simp, by decide, fun x hx => ?_⟩⟩
  have hx : ∃ t : Str, x = .str t ∧ t.length ≤ 2 := by
    simp only [List.mem_cons, List.not_mem_nil, or_false] at hx
    rcases hx with rfl | rfl | rfl | rfl | rfl <;> exact ⟨_, rfl, by decide⟩
  obtain ⟨t, rfl, ht⟩ := hx
  simp only [List.map_cons, List.map_nil, aSeq, aLc, iL, iT, iR1, iE, iZ, aSlT, aSlL, aNoP, aPt, wipeE, aIfS, aT, aB, aBO, aC, aSet, aRet, aTup, aLst, aO, dCons, dNil, aCB, aCBO, aOr, aAnd, aNot, aIf, aOrV, aNotV, aSkip, aAsg, aAug, ex_vaint, tgN, aCall, gConsA, gNilA, gScA, gTownA, aPar2, aPar3, aV_eq, dI_i, dIC_i, dIx_t, dIx_l, dMin2_i, dMax2_i, dSumT_2, dLen_l, dLen_t, dEq_i, dNe_i, dEq_ni, dEq_in, dIs_i, dIs_n, dIsn_i, dIsn_n, dCat_l, dCatT_t, dListO_l, dListO_t, dTupleO_l, dTupleO_t, tgs2, tgs0, tgt, ite_t, ite_f, ex_l1i, ex_l1l, ex_l2l, ex_l1, ex_l2, ex_l3, ex_int, ex_bool, ex_some, ex_va, ex_ow, ex_sc, ex_list, ex_tuple, at0, at1, at2, at3, ln0, ln1, ln2, ln3, ln4, ln5, ln6, List.cons_append, List.nil_append, List.getElem?_cons_zero, List.getElem?_cons_succ, List.set_cons_zero, List.set_cons_succ, List.length_cons, List.length_nil, true_and, and_true, true_implies, forall_const, Bool.true_eq_false, Bool.false_eq_true, false_implies, decide_eq_true_eq, decide_eq_false_iff_not, Int.sub_self, Int.sub_zero, Int.reduceSub, Int.reduceAdd, Int.reduceNeg, Int.reduceEq, Int.reduceLT, Int.reduceLE, Int.reduceNe, if_true, if_false, reduceIte, decide_true, decide_false, decide_not, Bool.not_true, Bool.not_false, Bool.not_eq_true, Bool.not_eq_false, aNiT, aIxT, aGetT, iS, aSlS, aDrop, aNever, Lr.ex_str, Lr.dLenS_s, Lr.dInS_s, Lr.dCatS_s, Lr.W_cstr_i, aJoin, aSplit, tgStarL, dStar]
  have l1 := Lr.cut_l (Lr.comS cs) none (some at_)
  have l2 := Lr.cut_l (Lr.comS cs) (some (at_ + 1)) none
  refine ⟨lineLe (by omega), lineLe (by omega), lineLe (by omega), lineLe (by rw [Lr.app_l]; omega), ?_⟩
  generalize hz : (cutS (Lr.comS cs) none (some at_) ++ t ++ cutS (Lr.comS cs) (some (at_ + 1)) none) = z
  have lz : z.length ≤ 800 := by
    rw [← hz, Lr.app_l, Lr.app_l]; omega
  refine Lr.aGood lz ?_
  refine ⟨z, 0, rfl, by decide, lz, i_ParseError, _, rfl, fun hs => ?_, fun hs => ?_⟩
  · refine Lr.aDigs lz hs (Lr.dNe_same (Lr.sh_read 0 z) (by simp only [Lr.readD, hs, if_true]) ⟨_, rfl, fun h => (by cases h), fun _ => ?_⟩)
    have l3 := Lr.cut_l (Lr.ligS ls) none (some at_)
    have l4 := Lr.cut_l (Lr.ligS ls) (some (at_ + 1)) none
    refine ⟨lineLe (by omega), lineLe (by omega), lineLe (by omega), lineLe (by rw [Lr.app_l]; omega), ?_⟩
    generalize hy : (cutS (Lr.ligS ls) none (some at_) ++ t ++ cutS (Lr.ligS ls) (some (at_ + 1)) none) = y
    have ly : y.length ≤ 800 := by
      rw [← hy, Lr.app_l, Lr.app_l]; omega
    refine Lr.aGood ly ⟨_, rfl, fun hk => ?_, fun hk => ?_⟩
    · exact Lr.aLigs ly hk ⟨y, 1, rfl, by decide, ly, i_ParseError, Lr.dEq_same (Lr.sh_read 1 y) (by simp only [Lr.readD, hk, if_true]) q⟩
    · exact ⟨y, 1, rfl, by decide, ly, i_ParseError, Lr.dEq_same (Lr.sh_read 1 y) (by simp only [Lr.readD, hk, Bool.false_eq_true, if_false]) q⟩
  · refine Lr.dNe_same (Lr.sh_read 0 z) (by simp only [Lr.readD, hs, Bool.false_eq_true, if_false]) ⟨_, rfl, fun h => (by cases h), fun _ => ?_⟩
    have l3 := Lr.cut_l (Lr.ligS ls) none (some at_)
    have l4 := Lr.cut_l (Lr.ligS ls) (some (at_ + 1)) none
    refine ⟨lineLe (by omega), lineLe (by omega), lineLe (by omega), lineLe (by rw [Lr.app_l]; omega), ?_⟩
    generalize hy : (cutS (Lr.ligS ls) none (some at_) ++ t ++ cutS (Lr.ligS ls) (some (at_ + 1)) none) = y
    have ly : y.length ≤ 800 := by
      rw [← hy, Lr.app_l, Lr.app_l]; omega
    refine Lr.aGood ly ⟨_, rfl, fun hk => ?_, fun hk => ?_⟩
    · exact Lr.aLigs ly hk ⟨y, 1, rfl, by decide, ly, i_ParseError, Lr.dEq_same (Lr.sh_read 1 y) (by simp only [Lr.readD, hk, if_true]) q⟩
    · exact ⟨y, 1, rfl, by decide, ly, i_ParseError, Lr.dEq_same (Lr.sh_read 1 y) (by simp only [Lr.readD, hk, Bool.false_eq_true, if_false]) q⟩

theorem all_mk {l : PySem.W.OpenLaw} {w : World} {K : PySem.W.Frag} {h : Heap} {mg : Str → Option Value} {fa f0 f1 f2 f3 f4 f5 f6 f7 f8 f9 f10 f11 f12 f13 f14 f15 f16 f17 f18 f19 f20 f21 td0 td1 td2 : Addr} (X : K.In h) (G : h.Ns mainGlobals mg) (hfa : mg "law" = some (.ref fa)) {od0 an0 od1 an1 od2 an2 od3 an3 od4 an4 od5 an5 od6 an6 od7 an7 od8 an8 od9 an9 od10 an10 od11 an11 od12 an12 od13 an13 od14 an14 od15 an15 od16 an16 od17 an17 od18 an18 od19 an19 od20 an20 od21 an21 : Option Addr} {sl0 sl1 sl2 sl3 sl4 sl5 sl6 sl7 sl8 sl9 sl10 sl11 sl12 sl13 sl14 sl15 sl16 sl17 sl18 sl19 sl20 sl21 : Array (Option Value)} {oc0 kV0 dc0 pm0 cd0 ct0 oc1 kV1 dc1 pm1 cd1 ct1 oc2 kV2 dc2 pm2 cd2 ct2 oc3 kV3 dc3 pm3 cd3 ct3 oc4 kV4 dc4 pm4 cd4 ct4 oc5 kV5 dc5 pm5 cd5 ct5 oc6 kV6 dc6 pm6 cd6 ct6 oc7 kV7 dc7 pm7 cd7 ct7 oc8 kV8 dc8 pm8 cd8 ct8 oc9 kV9 dc9 pm9 cd9 ct9 oc10 kV10 dc10 pm10 cd10 ct10 oc11 kV11 dc11 pm11 cd11 ct11 oc12 kV12 dc12 pm12 cd12 ct12 oc13 kV13 dc13 pm13 cd13 ct13 oc14 kV14 dc14 pm14 cd14 ct14 oc15 kV15 dc15 pm15 cd15 ct15 oc16 kV16 dc16 pm16 cd16 ct16 oc17 kV17 dc17 pm17 cd17 ct17 oc18 kV18 dc18 pm18 cd18 ct18 oc19 kV19 dc19 pm19 cd19 ct19 oc20 kV20 dc20 pm20 cd20 ct20 oc21 kV21 dc21 pm21 cd21 ct21 : Value}
    {tk0 : Tok}
    {C_LightError C_ParseError : Addr}
    (gE_LightError : PySem.W.nsIn K mainGlobals "LightError" = some (some (.ref C_LightError)))
    (hd_LightError : PySem.W.hasDictIn K C_LightError = true)
    (ty_LightError : PySem.W.typeIn K (.ref C_LightError) = some (.type "type"))
    (gE_ParseError : PySem.W.nsIn K mainGlobals "ParseError" = some (some (.ref C_ParseError)))
    (hd_ParseError : PySem.W.hasDictIn K C_ParseError = true)
    (ty_ParseError : PySem.W.typeIn K (.ref C_ParseError) = some (.type "type"))
    (sb_LightError : PySem.W.subIn K (.ref C_LightError) (.type "BaseException") = some true)
    (hnE : PySem.W.specialIn K (.builtin "object.__class__") "__get__" = some (some (.builtin "getset_descriptor.__get__")))
    (htE : PySem.W.takesIn K (.builtin "object.__class__") = some true)
    (xp_ParseError : PySem.W.excIn K C_ParseError [.type "ValueError", .type "Exception", .type "BaseException", .type "object"] "ValueError.__new__" = true)
    (kp_ParseError : PySem.W.keepIn K (.ref C_ParseError) = true)
    (sb_ParseError : PySem.W.subIn K (.ref C_ParseError) (.type "BaseException") = some true)
    (sv_ParseError : PySem.W.subIn K (.ref C_ParseError) (.type "ValueError") = some true)
    (ga_ParseError : PySem.W.findIn K (.ref C_ParseError) "__getattribute__" = some (some (.builtin "BaseException.__getattribute__")))
    (gt_ParseError : PySem.W.findIn K (.ref C_ParseError) "__getattr__" = some none)
    (ca_ParseError : PySem.W.findIn K (.ref C_ParseError) "__class__" = some (some (.builtin "object.__class__")))
    (mo_ParseError : PySem.W.mroIn K C_ParseError (.type "object") = some true)
    (su_ParseError_LightError : PySem.W.subIn K (.ref C_ParseError) (.ref C_LightError) = some true)
    (su_ParseError_ParseError : PySem.W.subIn K (.ref C_ParseError) (.ref C_ParseError) = some true)
    (a0 : PySem.W.nsIn K mainGlobals "is_number" = some (some (.ref f0))) (l0 : K.lookup f0 = some ⟨oc0, od0, .func (PySem.W.fnOf "is_number" "is_number" (defArgs s_is_number) (defBody s_is_number) (defScope s_is_number) .none kV0 dc0 pm0 an0 cd0 ct0), sl0⟩) (c0 : PySem.W.codeIn K cd0 "is_number" = true) (k0 : PySem.W.keepIn K (.ref f0) = true)
    (a1 : PySem.W.nsIn K mainGlobals "is_rule" = some (some (.ref f1))) (l1 : K.lookup f1 = some ⟨oc1, od1, .func (PySem.W.fnOf "is_rule" "is_rule" (defArgs s_is_rule) (defBody s_is_rule) (defScope s_is_rule) .none kV1 dc1 pm1 an1 cd1 ct1), sl1⟩) (c1 : PySem.W.codeIn K cd1 "is_rule" = true) (k1 : PySem.W.keepIn K (.ref f1) = true)
    (a2 : PySem.W.nsIn K mainGlobals "_law_draw" = some (some (.ref f2))) (l2 : K.lookup f2 = some ⟨oc2, od2, .func (PySem.W.fnOf "_law_draw" "_law_draw" (defArgs s__law_draw) (defBody s__law_draw) (defScope s__law_draw) .none kV2 dc2 pm2 an2 cd2 ct2), sl2⟩) (c2 : PySem.W.codeIn K cd2 "_law_draw" = true) (k2 : PySem.W.keepIn K (.ref f2) = true)
    (a3 : PySem.W.nsIn K mainGlobals "_law_pick" = some (some (.ref f3))) (l3 : K.lookup f3 = some ⟨oc3, od3, .func (PySem.W.fnOf "_law_pick" "_law_pick" (defArgs s__law_pick) (defBody s__law_pick) (defScope s__law_pick) .none kV3 dc3 pm3 an3 cd3 ct3), sl3⟩) (c3 : PySem.W.codeIn K cd3 "_law_pick" = true) (k3 : PySem.W.keepIn K (.ref f3) = true)
    (a4 : PySem.W.nsIn K mainGlobals "_law_rule" = some (some (.ref f4))) (l4 : K.lookup f4 = some ⟨oc4, od4, .func (PySem.W.fnOf "_law_rule" "_law_rule" (defArgs s__law_rule) (defBody s__law_rule) (defScope s__law_rule) .none kV4 dc4 pm4 an4 cd4 ct4), sl4⟩) (c4 : PySem.W.codeIn K cd4 "_law_rule" = true) (k4 : PySem.W.keepIn K (.ref f4) = true)
    (a5 : PySem.W.nsIn K mainGlobals "_law_comings" = some (some (.ref f5))) (l5 : K.lookup f5 = some ⟨oc5, od5, .func (PySem.W.fnOf "_law_comings" "_law_comings" (defArgs s__law_comings) (defBody s__law_comings) (defScope s__law_comings) .none kV5 dc5 pm5 an5 cd5 ct5), sl5⟩) (c5 : PySem.W.codeIn K cd5 "_law_comings" = true) (k5 : PySem.W.keepIn K (.ref f5) = true)
    (a6 : PySem.W.nsIn K mainGlobals "_check_string" = some (some (.ref f6))) (l6 : K.lookup f6 = some ⟨oc6, od6, .func (PySem.W.fnOf "_check_string" "_check_string" (defArgs s__check_string) (defBody s__check_string) (defScope s__check_string) .none kV6 dc6 pm6 an6 cd6 ct6), sl6⟩) (c6 : PySem.W.codeIn K cd6 "_check_string" = true) (k6 : PySem.W.keepIn K (.ref f6) = true)
    (a7 : PySem.W.nsIn K mainGlobals "_check_signs" = some (some (.ref f7))) (l7 : K.lookup f7 = some ⟨oc7, od7, .func (PySem.W.fnOf "_check_signs" "_check_signs" (defArgs s__check_signs) (defBody s__check_signs) (defScope s__check_signs) .none kV7 dc7 pm7 an7 cd7 ct7), sl7⟩) (c7 : PySem.W.codeIn K cd7 "_check_signs" = true) (k7 : PySem.W.keepIn K (.ref f7) = true)
    (a8 : PySem.W.nsIn K mainGlobals "parse_comings" = some (some (.ref f8))) (l8 : K.lookup f8 = some ⟨oc8, od8, .func (PySem.W.fnOf "parse_comings" "parse_comings" (defArgs s_parse_comings) (defBody s_parse_comings) (defScope s_parse_comings) .none kV8 dc8 pm8 an8 cd8 ct8), sl8⟩) (c8 : PySem.W.codeIn K cd8 "parse_comings" = true) (k8 : PySem.W.keepIn K (.ref f8) = true)
    (a9 : PySem.W.nsIn K mainGlobals "parse_lights" = some (some (.ref f9))) (l9 : K.lookup f9 = some ⟨oc9, od9, .func (PySem.W.fnOf "parse_lights" "parse_lights" (defArgs s_parse_lights) (defBody s_parse_lights) (defScope s_parse_lights) .none kV9 dc9 pm9 an9 cd9 ct9), sl9⟩) (c9 : PySem.W.codeIn K cd9 "parse_lights" = true) (k9 : PySem.W.keepIn K (.ref f9) = true)
    (a10 : PySem.W.nsIn K mainGlobals "parse_rule" = some (some (.ref f10))) (l10 : K.lookup f10 = some ⟨oc10, od10, .func (PySem.W.fnOf "parse_rule" "parse_rule" (defArgs s_parse_rule) (defBody s_parse_rule) (defScope s_parse_rule) .none kV10 dc10 pm10 an10 cd10 ct10), sl10⟩) (c10 : PySem.W.codeIn K cd10 "parse_rule" = true) (k10 : PySem.W.keepIn K (.ref f10) = true)
    (a11 : PySem.W.nsIn K mainGlobals "_law_read" = some (some (.ref f11))) (l11 : K.lookup f11 = some ⟨oc11, od11, .func (PySem.W.fnOf "_law_read" "_law_read" (defArgs s__law_read) (defBody s__law_read) (defScope s__law_read) .none kV11 dc11 pm11 an11 cd11 ct11), sl11⟩) (c11 : PySem.W.codeIn K cd11 "_law_read" = true) (k11 : PySem.W.keepIn K (.ref f11) = true)
    (a12 : PySem.W.nsIn K mainGlobals "check_rule" = some (some (.ref f12))) (l12 : K.lookup f12 = some ⟨oc12, od12, .func (PySem.W.fnOf "check_rule" "check_rule" (defArgs s_check_rule) (defBody s_check_rule) (defScope s_check_rule) .none kV12 dc12 pm12 an12 cd12 ct12), sl12⟩) (c12 : PySem.W.codeIn K cd12 "check_rule" = true) (k12 : PySem.W.keepIn K (.ref f12) = true)
    (a13 : PySem.W.nsIn K mainGlobals "format_rule" = some (some (.ref f13))) (l13 : K.lookup f13 = some ⟨oc13, od13, .func (PySem.W.fnOf "format_rule" "format_rule" (defArgs s_format_rule) (defBody s_format_rule) (defScope s_format_rule) .none kV13 dc13 pm13 an13 cd13 ct13), sl13⟩) (c13 : PySem.W.codeIn K cd13 "format_rule" = true) (k13 : PySem.W.keepIn K (.ref f13) = true)
    (a14 : PySem.W.nsIn K mainGlobals "are_comings" = some (some (.ref f14))) (l14 : K.lookup f14 = some ⟨oc14, od14, .func (PySem.W.fnOf "are_comings" "are_comings" (defArgs s_are_comings) (defBody s_are_comings) (defScope s_are_comings) .none kV14 dc14 pm14 an14 cd14 ct14), sl14⟩) (c14 : PySem.W.codeIn K cd14 "are_comings" = true) (k14 : PySem.W.keepIn K (.ref f14) = true)
    (a15 : PySem.W.nsIn K mainGlobals "check_comings" = some (some (.ref f15))) (l15 : K.lookup f15 = some ⟨oc15, od15, .func (PySem.W.fnOf "check_comings" "check_comings" (defArgs s_check_comings) (defBody s_check_comings) (defScope s_check_comings) .none kV15 dc15 pm15 an15 cd15 ct15), sl15⟩) (c15 : PySem.W.codeIn K cd15 "check_comings" = true) (k15 : PySem.W.keepIn K (.ref f15) = true)
    (a16 : PySem.W.nsIn K mainGlobals "format_comings" = some (some (.ref f16))) (l16 : K.lookup f16 = some ⟨oc16, od16, .func (PySem.W.fnOf "format_comings" "format_comings" (defArgs s_format_comings) (defBody s_format_comings) (defScope s_format_comings) .none kV16 dc16 pm16 an16 cd16 ct16), sl16⟩) (c16 : PySem.W.codeIn K cd16 "format_comings" = true) (k16 : PySem.W.keepIn K (.ref f16) = true)
    (a17 : PySem.W.nsIn K mainGlobals "_are_lights" = some (some (.ref f17))) (l17 : K.lookup f17 = some ⟨oc17, od17, .func (PySem.W.fnOf "_are_lights" "_are_lights" (defArgs s__are_lights) (defBody s__are_lights) (defScope s__are_lights) .none kV17 dc17 pm17 an17 cd17 ct17), sl17⟩) (c17 : PySem.W.codeIn K cd17 "_are_lights" = true) (k17 : PySem.W.keepIn K (.ref f17) = true)
    (a18 : PySem.W.nsIn K mainGlobals "check_lights" = some (some (.ref f18))) (l18 : K.lookup f18 = some ⟨oc18, od18, .func (PySem.W.fnOf "check_lights" "check_lights" (defArgs s_check_lights) (defBody s_check_lights) (defScope s_check_lights) .none kV18 dc18 pm18 an18 cd18 ct18), sl18⟩) (c18 : PySem.W.codeIn K cd18 "check_lights" = true) (k18 : PySem.W.keepIn K (.ref f18) = true)
    (a19 : PySem.W.nsIn K mainGlobals "format_lights" = some (some (.ref f19))) (l19 : K.lookup f19 = some ⟨oc19, od19, .func (PySem.W.fnOf "format_lights" "format_lights" (defArgs s_format_lights) (defBody s_format_lights) (defScope s_format_lights) .none kV19 dc19 pm19 an19 cd19 ct19), sl19⟩) (c19 : PySem.W.codeIn K cd19 "format_lights" = true) (k19 : PySem.W.keepIn K (.ref f19) = true)
    (a20 : PySem.W.nsIn K mainGlobals "_law_told" = some (some (.ref f20))) (l20 : K.lookup f20 = some ⟨oc20, od20, .func (PySem.W.fnOf "_law_told" "_law_told" (defArgs s__law_told) (defBody s__law_told) (defScope s__law_told) .none kV20 dc20 pm20 an20 cd20 ct20), sl20⟩) (c20 : PySem.W.codeIn K cd20 "_law_told" = true) (k20 : PySem.W.keepIn K (.ref f20) = true)
    (a21 : PySem.W.nsIn K mainGlobals "law" = some (some (.ref f21))) (l21 : K.lookup f21 = some ⟨oc21, od21, .func (PySem.W.fnOf "law" "law" (defArgs s_law) (defBody s_law) (defScope s_law) .none kV21 dc21 pm21 an21 cd21 ct21), sl21⟩) (c21 : PySem.W.codeIn K cd21 "law" = true) (k21 : PySem.W.keepIn K (.ref f21) = true)
    (z_isinstance : PySem.W.nsIn K mainGlobals "isinstance" = some none)
    (z_bool : PySem.W.nsIn K mainGlobals "bool" = some none)
    (z_int : PySem.W.nsIn K mainGlobals "int" = some none)
    (z_len : PySem.W.nsIn K mainGlobals "len" = some none)
    (z_tuple : PySem.W.nsIn K mainGlobals "tuple" = some none)
    (z_str : PySem.W.nsIn K mainGlobals "str" = some none)
    (z_all : PySem.W.nsIn K mainGlobals "all" = some none)
    (z_range : PySem.W.nsIn K mainGlobals "range" = some none)
    (z_list : PySem.W.nsIn K mainGlobals "list" = some none)
    (cst0 : PySem.W.nsIn K mainGlobals "MOST_TICKS" = some (some (.int 40 tk0)))
    {tes0 : Array DictEntry} {ten0 : Nat} {tu0_0 tu0_1 tu0_2 tu0_3 tu0_4 tu0_5 : Tok} (tta0 : PySem.W.nsIn K mainGlobals "_NUMBERS_BEHIND" = some (some (.ref td0))) (ttl0 : K.lookup td0 = some ⟨.type "dict", none, .dict tes0 ten0, #[]⟩) (ttk0 : PySem.W.KeysLit w.params tes0.toList) (tts0 : (td0 == sysModules) = false) (ttv0_0 : PySem.W.nsIn K td0 "asked" = some (some (.int 1 tu0_0))) (ttv0_1 : PySem.W.nsIn K td0 "clock" = some (some (.int 2 tu0_1))) (ttv0_2 : PySem.W.nsIn K td0 "due" = some (some (.int 1 tu0_2))) (ttv0_3 : PySem.W.nsIn K td0 "empty" = some (some (.int 1 tu0_3))) (ttv0_4 : PySem.W.nsIn K td0 "gap" = some (some (.int 2 tu0_4))) (ttv0_5 : PySem.W.nsIn K td0 "longer" = some (some (.int 1 tu0_5))) (tte0 : absE tes0 ["asked", "clock", "due", "empty", "gap", "longer"] = true)
    {tes1 : Array DictEntry} {ten1 : Nat} {tu1_0 tu1_1 : Tok} (tta1 : PySem.W.nsIn K mainGlobals "_LIGHTS" = some (some (.ref td1))) (ttl1 : K.lookup td1 = some ⟨.type "dict", none, .dict tes1 ten1, #[]⟩) (ttk1 : PySem.W.KeysLit w.params tes1.toList) (tts1 : (td1 == sysModules) = false) (ttv1_0 : PySem.W.nsIn K td1 "0" = some (some (.int 0 tu1_0))) (ttv1_1 : PySem.W.nsIn K td1 "1" = some (some (.int 1 tu1_1))) (ttv1_2 : PySem.W.nsIn K td1 "-" = some (some .none)) (tte1 : absE tes1 ["0", "1", "-"] = true)
    {tes2 : Array DictEntry} {ten2 : Nat} {tu2_0 tu2_1 tu2_2 tu2_3 : Tok} (tta2 : PySem.W.nsIn K mainGlobals "_NUMBERS" = some (some (.ref td2))) (ttl2 : K.lookup td2 = some ⟨.type "dict", none, .dict tes2 ten2, #[]⟩) (ttk2 : PySem.W.KeysLit w.params tes2.toList) (tts2 : (td2 == sysModules) = false) (ttv2_0 : PySem.W.nsIn K td2 "1" = some (some (.int 1 tu2_0))) (ttv2_1 : PySem.W.nsIn K td2 "2" = some (some (.int 2 tu2_1))) (ttv2_2 : PySem.W.nsIn K td2 "3" = some (some (.int 3 tu2_2))) (ttv2_3 : PySem.W.nsIn K td2 "4" = some (some (.int 4 tu2_3))) (tte2 : absE tes2 ["1", "2", "3", "4"] = true)
    : ∃ fd : FuncData, (∀ (s : Shared) (v : Value), BindsTo s fd ⟨[v], []⟩ [("_law_script", v)]) ∧ ∀ base : Heap, K.In base → base.Ns mainGlobals mg → FnOk l.prog w K mg base CX0 5 fa fd ["_law_script"] (spA ⟨K, l.prog, w⟩ 1 WLaw) := by
  have e := hfa.symm.trans (PySem.W.mg_of X G a21)
  cases e
  have F0 := fun_mk (st := s_is_number) l0 c0 k0
  have b0 := F0.binds (ps := ["candidate", "least", "most"]) fun _ _ _ _ _ _ us hl => match us, hl with | [_, _, _], _ => rfl
  have F1 := fun_mk (st := s_is_rule) l1 c1 k1
  have b1 := F1.binds (ps := ["candidate"]) fun _ _ _ _ _ _ us hl => match us, hl with | [_], _ => rfl
  have F2 := fun_mk (st := s__law_draw) l2 c2 k2
  have b2 := F2.binds (ps := ["_law_script", "_law_town", "_law_many"]) fun _ _ _ _ _ _ us hl => match us, hl with | [_, _, _], _ => rfl
  have F3 := fun_mk (st := s__law_pick) l3 c3 k3
  have b3 := F3.binds (ps := ["_law_script", "_law_town", "_law_some"]) fun _ _ _ _ _ _ us hl => match us, hl with | [_, _, _], _ => rfl
  have F4 := fun_mk (st := s__law_rule) l4 c4 k4
  have b4 := F4.binds (ps := ["_law_script", "_law_town"]) fun _ _ _ _ _ _ us hl => match us, hl with | [_, _], _ => rfl
  have F5 := fun_mk (st := s__law_comings) l5 c5 k5
  have b5 := F5.binds (ps := ["_law_script", "_law_town", "_law_most"]) fun _ _ _ _ _ _ us hl => match us, hl with | [_, _, _], _ => rfl
  have F6 := fun_mk (st := s__check_string) l6 c6 k6
  have b6 := F6.binds (ps := ["text"]) fun _ _ _ _ _ _ us hl => match us, hl with | [_], _ => rfl
  have F7 := fun_mk (st := s__check_signs) l7 c7 k7
  have b7 := F7.binds (ps := ["text", "known"]) fun _ _ _ _ _ _ us hl => match us, hl with | [_, _], _ => rfl
  have F8 := fun_mk (st := s_parse_comings) l8 c8 k8
  have b8 := F8.binds (ps := ["text"]) fun _ _ _ _ _ _ us hl => match us, hl with | [_], _ => rfl
  have F9 := fun_mk (st := s_parse_lights) l9 c9 k9
  have b9 := F9.binds (ps := ["text"]) fun _ _ _ _ _ _ us hl => match us, hl with | [_], _ => rfl
  have F10 := fun_mk (st := s_parse_rule) l10 c10 k10
  have b10 := F10.binds (ps := ["text"]) fun _ _ _ _ _ _ us hl => match us, hl with | [_], _ => rfl
  have F11 := fun_mk (st := s__law_read) l11 c11 k11
  have b11 := F11.binds (ps := ["_law_text", "_law_what"]) fun _ _ _ _ _ _ us hl => match us, hl with | [_, _], _ => rfl
  have F12 := fun_mk (st := s_check_rule) l12 c12 k12
  have b12 := F12.binds (ps := ["rule"]) fun _ _ _ _ _ _ us hl => match us, hl with | [_], _ => rfl
  have F13 := fun_mk (st := s_format_rule) l13 c13 k13
  have b13 := F13.binds (ps := ["rule"]) fun _ _ _ _ _ _ us hl => match us, hl with | [_], _ => rfl
  have F14 := fun_mk (st := s_are_comings) l14 c14 k14
  have b14 := F14.binds (ps := ["candidate"]) fun _ _ _ _ _ _ us hl => match us, hl with | [_], _ => rfl
  have F15 := fun_mk (st := s_check_comings) l15 c15 k15
  have b15 := F15.binds (ps := ["comings"]) fun _ _ _ _ _ _ us hl => match us, hl with | [_], _ => rfl
  have F16 := fun_mk (st := s_format_comings) l16 c16 k16
  have b16 := F16.binds (ps := ["comings"]) fun _ _ _ _ _ _ us hl => match us, hl with | [_], _ => rfl
  have F17 := fun_mk (st := s__are_lights) l17 c17 k17
  have b17 := F17.binds (ps := ["candidate"]) fun _ _ _ _ _ _ us hl => match us, hl with | [_], _ => rfl
  have F18 := fun_mk (st := s_check_lights) l18 c18 k18
  have b18 := F18.binds (ps := ["lights"]) fun _ _ _ _ _ _ us hl => match us, hl with | [_], _ => rfl
  have F19 := fun_mk (st := s_format_lights) l19 c19 k19
  have b19 := F19.binds (ps := ["lights"]) fun _ _ _ _ _ _ us hl => match us, hl with | [_], _ => rfl
  have F20 := fun_mk (st := s__law_told) l20 c20 k20
  have b20 := F20.binds (ps := ["_law_text"]) fun _ _ _ _ _ _ us hl => match us, hl with | [_], _ => rfl
  have F21 := fun_mk (st := s_law) l21 c21 k21
  have T3__NUMBERS_BEHIND : Tb K w mg "_NUMBERS_BEHIND" Lr.nbD := ⟨td0, tes0, ten0, ⟨ttl0, ttk0, tts0⟩, PySem.W.mg_of X G tta0, fun p hp => by
    simp only [Lr.nbD, List.mem_cons, List.not_mem_nil, or_false] at hp
    rcases hp with rfl | rfl | rfl | rfl | rfl | rfl
    · exact ⟨_, _, ttv0_0, rfl, ⟨_, rfl⟩⟩
    · exact ⟨_, _, ttv0_1, rfl, ⟨_, rfl⟩⟩
    · exact ⟨_, _, ttv0_2, rfl, ⟨_, rfl⟩⟩
    · exact ⟨_, _, ttv0_3, rfl, ⟨_, rfl⟩⟩
    · exact ⟨_, _, ttv0_4, rfl, ⟨_, rfl⟩⟩
    · exact ⟨_, _, ttv0_5, rfl, ⟨_, rfl⟩⟩, fun z hz => abs_of ttl0 tte0 z hz⟩
  have T3__LIGHTS : Tb K w mg "_LIGHTS" Lr.ligT := ⟨td1, tes1, ten1, ⟨ttl1, ttk1, tts1⟩, PySem.W.mg_of X G tta1, fun p hp => by
    simp only [Lr.ligT, List.mem_cons, List.not_mem_nil, or_false] at hp
    rcases hp with rfl | rfl | rfl
    · exact ⟨_, _, ttv1_0, rfl, ⟨_, rfl⟩⟩
    · exact ⟨_, _, ttv1_1, rfl, ⟨_, rfl⟩⟩
    · exact ⟨_, _, ttv1_2, rfl, rfl⟩, fun z hz => abs_of ttl1 tte1 z hz⟩
  have T3__NUMBERS : Tb K w mg "_NUMBERS" Lr.numT := ⟨td2, tes2, ten2, ⟨ttl2, ttk2, tts2⟩, PySem.W.mg_of X G tta2, fun p hp => by
    simp only [Lr.numT, List.mem_cons, List.not_mem_nil, or_false] at hp
    rcases hp with rfl | rfl | rfl | rfl
    · exact ⟨_, _, ttv2_0, rfl, ⟨_, rfl⟩⟩
    · exact ⟨_, _, ttv2_1, rfl, ⟨_, rfl⟩⟩
    · exact ⟨_, _, ttv2_2, rfl, ⟨_, rfl⟩⟩
    · exact ⟨_, _, ttv2_3, rfl, ⟨_, rfl⟩⟩, fun z hz => abs_of ttl2 tte2 z hz⟩
  refine ⟨PySem.W.fnOf "law" "law" (defArgs s_law) (defBody s_law) (defScope s_law) .none kV21 dc21 pm21 an21 cd21 ct21, fun s v => .of_eq rfl, fun base _ _ => ?_⟩
  have E_ParseError : ExcF K mg "ParseError" C_ParseError := ⟨xp_ParseError, PySem.W.mg_of X G gE_ParseError, kp_ParseError, sb_ParseError, ty_ParseError⟩
  have i_ParseError : Lr.OkP K C_LightError C_ParseError C_ParseError := ⟨⟨ga_ParseError, gt_ParseError, sb_ParseError, hd_ParseError, ca_ParseError, hnE, htE, mo_ParseError⟩, PySem.W.exm_ref sb_LightError hd_LightError ty_LightError su_ParseError_LightError, Lr.kit_own (C := C_ParseError) hd_ParseError ty_ParseError su_ParseError_ParseError (fun z => nomatch z)⟩
  have h_is_number := t_is_number (P := l.prog) (w := w) (base := base) (k := 0)  (PySem.W.mg_none_of X G z_isinstance) (PySem.W.mg_none_of X G z_bool) (PySem.W.mg_none_of X G z_int) F0 (PySem.W.mg_of X G a0) b0
  have h_is_rule := t_is_rule (P := l.prog) (w := w) (base := base) (k := 1) (h_is_number.mono (by decide)) (PySem.W.mg_none_of X G z_len) (PySem.W.mg_none_of X G z_isinstance) (PySem.W.mg_none_of X G z_tuple) (PySem.W.mg_none_of X G z_str) (PySem.W.mg_none_of X G z_all) T3__NUMBERS_BEHIND F1 (PySem.W.mg_of X G a1) b1
  have h__law_draw := t__law_draw (P := l.prog) (w := w) (base := base) (k := 0)  (PySem.W.mg_none_of X G z_len) F2 (PySem.W.mg_of X G a2) b2
  have h__law_pick := t__law_pick (P := l.prog) (w := w) (base := base) (k := 1) (h__law_draw.mono (by decide)) (PySem.W.mg_none_of X G z_len) F3 (PySem.W.mg_of X G a3) b3
  have h__law_rule := t__law_rule (P := l.prog) (w := w) (base := base) (k := 2) (h__law_pick.mono (by decide)) (h__law_draw.mono (by decide)) F4 (PySem.W.mg_of X G a4) b4
  have h__law_comings := t__law_comings (P := l.prog) (w := w) (base := base) (k := 1) (h__law_draw.mono (by decide)) (PySem.W.mg_none_of X G z_range) F5 (PySem.W.mg_of X G a5) b5
  have h__check_string := t__check_string (P := l.prog) (w := w) (base := base) (k := 0)  (PySem.W.mg_none_of X G z_isinstance) (PySem.W.mg_none_of X G z_str) F6 (PySem.W.mg_of X G a6) b6
  have x__check_string : ClX l.prog w K mg base 1 "_check_string" 1 (Lr.WX_cstr C_ParseError) := x__check_string (P := l.prog) (w := w) (base := base) (k := 0)  (PySem.W.mg_none_of X G z_isinstance) (PySem.W.mg_none_of X G z_str) E_ParseError F6 (PySem.W.mg_of X G a6) b6
  have h__check_signs := t__check_signs (P := l.prog) (w := w) (base := base) (k := 1) (h__check_string.mono (by decide)) (PySem.W.mg_none_of X G z_len) (PySem.W.mg_none_of X G z_all) ⟨_, PySem.W.mg_of X G cst0⟩ F7 (PySem.W.mg_of X G a7) b7
  have x__check_signs : ClX l.prog w K mg base 2 "_check_signs" 2 (Lr.WX_csig C_ParseError) := x__check_signs (P := l.prog) (w := w) (base := base) (k := 1)  (x__check_string.mono (by decide)) (PySem.W.mg_none_of X G z_len) (PySem.W.mg_none_of X G z_all) E_ParseError ⟨_, PySem.W.mg_of X G cst0⟩ F7 (PySem.W.mg_of X G a7) b7
  have h_parse_comings := t_parse_comings (P := l.prog) (w := w) (base := base) (k := 2) (h__check_signs.mono (by decide)) (PySem.W.mg_none_of X G z_int) F8 (PySem.W.mg_of X G a8) b8
  have x_parse_comings : ClX l.prog w K mg base 3 "parse_comings" 1 (Lr.WX_psig "0123" C_ParseError) := x_parse_comings (P := l.prog) (w := w) (base := base) (k := 2)  (x__check_signs.mono (by decide)) F8 (PySem.W.mg_of X G a8) b8
  have h_parse_lights := t_parse_lights (P := l.prog) (w := w) (base := base) (k := 2) (h__check_signs.mono (by decide)) T3__LIGHTS F9 (PySem.W.mg_of X G a9) b9
  have x_parse_lights : ClX l.prog w K mg base 3 "parse_lights" 1 (Lr.WX_psig "01-" C_ParseError) := x_parse_lights (P := l.prog) (w := w) (base := base) (k := 2)  (x__check_signs.mono (by decide)) F9 (PySem.W.mg_of X G a9) b9
  have h_parse_rule := t_parse_rule (P := l.prog) (w := w) (base := base) (k := 2) (h__check_string.mono (by decide)) (h_is_rule.mono (by decide)) T3__NUMBERS F10 (PySem.W.mg_of X G a10) b10
  have x_parse_rule : ClX l.prog w K mg base 3 "parse_rule" 1 (Lr.WX_prule C_ParseError) := x_parse_rule (P := l.prog) (w := w) (base := base) (k := 2) (h_is_rule.mono (by decide)) (x__check_string.mono (by decide)) T3__NUMBERS E_ParseError F10 (PySem.W.mg_of X G a10) b10
  have h__law_read := t__law_read (P := l.prog) (w := w) (base := base) (k := 3) (h_parse_rule.mono (by decide)) (h_parse_lights.mono (by decide)) (h_parse_comings.mono (by decide)) (PySem.W.mg_none_of X G z_isinstance) (PySem.W.mg_of X G gE_LightError) (PySem.W.mg_of X G gE_ParseError) (x_parse_rule.mono (by decide)) (x_parse_lights.mono (by decide)) (x_parse_comings.mono (by decide)) F11 (PySem.W.mg_of X G a11) b11
  have h_check_rule := t_check_rule (P := l.prog) (w := w) (base := base) (k := 2) (h_is_rule.mono (by decide)) F12 (PySem.W.mg_of X G a12) b12
  have h_format_rule := t_format_rule (P := l.prog) (w := w) (base := base) (k := 3) (h_check_rule.mono (by decide)) (PySem.W.mg_none_of X G z_str) F13 (PySem.W.mg_of X G a13) b13
  have h_are_comings := t_are_comings (P := l.prog) (w := w) (base := base) (k := 1) (h_is_number.mono (by decide)) (PySem.W.mg_none_of X G z_len) (PySem.W.mg_none_of X G z_isinstance) (PySem.W.mg_none_of X G z_list) (PySem.W.mg_none_of X G z_all) ⟨_, PySem.W.mg_of X G cst0⟩ F14 (PySem.W.mg_of X G a14) b14
  have h_check_comings := t_check_comings (P := l.prog) (w := w) (base := base) (k := 2) (h_are_comings.mono (by decide)) F15 (PySem.W.mg_of X G a15) b15
  have h_format_comings := t_format_comings (P := l.prog) (w := w) (base := base) (k := 3) (h_check_comings.mono (by decide)) (PySem.W.mg_none_of X G z_str) F16 (PySem.W.mg_of X G a16) b16
  have h__are_lights := t__are_lights (P := l.prog) (w := w) (base := base) (k := 1) (h_is_number.mono (by decide)) (PySem.W.mg_none_of X G z_len) (PySem.W.mg_none_of X G z_isinstance) (PySem.W.mg_none_of X G z_list) (PySem.W.mg_none_of X G z_all) ⟨_, PySem.W.mg_of X G cst0⟩ F17 (PySem.W.mg_of X G a17) b17
  have h_check_lights := t_check_lights (P := l.prog) (w := w) (base := base) (k := 2) (h__are_lights.mono (by decide)) F18 (PySem.W.mg_of X G a18) b18
  have h_format_lights := t_format_lights (P := l.prog) (w := w) (base := base) (k := 3) (h_check_lights.mono (by decide)) (PySem.W.mg_none_of X G z_str) F19 (PySem.W.mg_of X G a19) b19
  have h__law_told := t__law_told (P := l.prog) (w := w) (base := base) (k := 2) (h_is_rule.mono (by decide)) (PySem.W.mg_none_of X G z_len) (PySem.W.mg_none_of X G z_all) (PySem.W.mg_none_of X G z_int) (PySem.W.mg_none_of X G z_tuple) F20 (PySem.W.mg_of X G a20) b20
  exact t_law (P := l.prog) (w := w) (mg := mg) (base := base) (k := 4) (h__law_comings.mono (by decide)) (h__law_rule.mono (by decide)) (h__law_draw.mono (by decide)) (h__law_pick.mono (by decide)) (h_format_comings.mono (by decide)) (h_parse_rule.mono (by decide)) (h_format_rule.mono (by decide)) (h_parse_lights.mono (by decide)) (h_format_lights.mono (by decide)) (h_parse_comings.mono (by decide)) (h__law_read.mono (by decide)) (h__law_told.mono (by decide)) (PySem.W.mg_none_of X G z_range) (PySem.W.mg_none_of X G z_str) (PySem.W.mg_none_of X G z_len) (PySem.W.mg_none_of X G z_all) (PySem.W.mg_none_of X G z_int) i_ParseError F21
end Lx
open PySem PySem.W PyProof.Rows
set_option maxHeartbeats 0 in
theorem PySem.Challenge.cw_lightrules_k26_whole_texts_holds : PySem.Challenge.rw_lightrules_k26_whole_texts.Holds := by
  w_on; o_law; k_head; (case hw => w_witness2)
  k_fill
  refine L2.walk_of (l := PySem.Challenge.rw_lightrules_k26_whole_texts) (n := 63) (k := 5) (x := "_law_script") (CX := fun _ => L2.CX0) (sp := fun w => Ab.spA ⟨_, PySem.Challenge.rw_lightrules_k26_whole_texts.prog, w⟩ 1 Ab.WLaw) rfl (by decide) rfl ⟨rfl, by decide, by decide⟩ (fun w h Y => PySem.W.kIn_of Y) ?F (fun _ _ a ns hl _ hS => Ab.law_sp hl hS) (fun _ _ _ _ _ h => h)
  case F =>
    intro w mg fa h KX G hmg
    refine' Lx.all_mk KX G hmg ?gE_LightError ?hd_LightError ?ty_LightError ?gE_ParseError ?hd_ParseError ?ty_ParseError ?sb_LightError ?hnE ?htE ?xp_ParseError ?kp_ParseError ?sb_ParseError ?sv_ParseError ?ga_ParseError ?gt_ParseError ?ca_ParseError ?mo_ParseError ?su_ParseError_LightError ?su_ParseError_ParseError ?a0 ?l0 ?c0 ?k0 ?a1 ?l1 ?c1 ?k1 ?a2 ?l2 ?c2 ?k2 ?a3 ?l3 ?c3 ?k3 ?a4 ?l4 ?c4 ?k4 ?a5 ?l5 ?c5 ?k5 ?a6 ?l6 ?c6 ?k6 ?a7 ?l7 ?c7 ?k7 ?a8 ?l8 ?c8 ?k8 ?a9 ?l9 ?c9 ?k9 ?a10 ?l10 ?c10 ?k10 ?a11 ?l11 ?c11 ?k11 ?a12 ?l12 ?c12 ?k12 ?a13 ?l13 ?c13 ?k13 ?a14 ?l14 ?c14 ?k14 ?a15 ?l15 ?c15 ?k15 ?a16 ?l16 ?c16 ?k16 ?a17 ?l17 ?c17 ?k17 ?a18 ?l18 ?c18 ?k18 ?a19 ?l19 ?c19 ?k19 ?a20 ?l20 ?c20 ?k20 ?a21 ?l21 ?c21 ?k21 ?z_isinstance ?z_bool ?z_int ?z_len ?z_tuple ?z_str ?z_all ?z_range ?z_list ?cst0 ?tta0 ?ttl0 ?ttk0 ?tts0 ?ttv0_0 ?ttv0_1 ?ttv0_2 ?ttv0_3 ?ttv0_4 ?ttv0_5 ?tte0 ?tta1 ?ttl1 ?ttk1 ?tts1 ?ttv1_0 ?ttv1_1 ?ttv1_2 ?tte1 ?tta2 ?ttl2 ?ttk2 ?tts2 ?ttv2_0 ?ttv2_1 ?ttv2_2 ?ttv2_3 ?tte2
    (case gE_LightError => k_is)
    (case hd_LightError => k_is)
    (case ty_LightError => k_is)
    (case gE_ParseError => k_is)
    (case hd_ParseError => k_is)
    (case ty_ParseError => k_is)
    (case sb_LightError => k_is)
    (case hnE => k_is)
    (case htE => k_is)
    (case xp_ParseError => k_exc)
    (case kp_ParseError => k_is)
    (case sb_ParseError => k_is)
    (case sv_ParseError => k_is)
    (case ga_ParseError => k_is)
    (case gt_ParseError => k_is)
    (case ca_ParseError => k_is)
    (case mo_ParseError => k_is)
    (case su_ParseError_LightError => k_is)
    (case su_ParseError_ParseError => k_is)
    (case a0 => k_is)
    (case l0 => k_is)
    (case c0 => k_is)
    (case k0 => k_is)
    (case a1 => k_is)
    (case l1 => k_is)
    (case c1 => k_is)
    (case k1 => k_is)
    (case a2 => k_is)
    (case l2 => k_is)
    (case c2 => k_is)
    (case k2 => k_is)
    (case a3 => k_is)
    (case l3 => k_is)
    (case c3 => k_is)
    (case k3 => k_is)
    (case a4 => k_is)
    (case l4 => k_is)
    (case c4 => k_is)
    (case k4 => k_is)
    (case a5 => k_is)
    (case l5 => k_is)
    (case c5 => k_is)
    (case k5 => k_is)
    (case a6 => k_is)
    (case l6 => k_is)
    (case c6 => k_is)
    (case k6 => k_is)
    (case a7 => k_is)
    (case l7 => k_is)
    (case c7 => k_is)
    (case k7 => k_is)
    (case a8 => k_is)
    (case l8 => k_is)
    (case c8 => k_is)
    (case k8 => k_is)
    (case a9 => k_is)
    (case l9 => k_is)
    (case c9 => k_is)
    (case k9 => k_is)
    (case a10 => k_is)
    (case l10 => k_is)
    (case c10 => k_is)
    (case k10 => k_is)
    (case a11 => k_is)
    (case l11 => k_is)
    (case c11 => k_is)
    (case k11 => k_is)
    (case a12 => k_is)
    (case l12 => k_is)
    (case c12 => k_is)
    (case k12 => k_is)
    (case a13 => k_is)
    (case l13 => k_is)
    (case c13 => k_is)
    (case k13 => k_is)
    (case a14 => k_is)
    (case l14 => k_is)
    (case c14 => k_is)
    (case k14 => k_is)
    (case a15 => k_is)
    (case l15 => k_is)
    (case c15 => k_is)
    (case k15 => k_is)
    (case a16 => k_is)
    (case l16 => k_is)
    (case c16 => k_is)
    (case k16 => k_is)
    (case a17 => k_is)
    (case l17 => k_is)
    (case c17 => k_is)
    (case k17 => k_is)
    (case a18 => k_is)
    (case l18 => k_is)
    (case c18 => k_is)
    (case k18 => k_is)
    (case a19 => k_is)
    (case l19 => k_is)
    (case c19 => k_is)
    (case k19 => k_is)
    (case a20 => k_is)
    (case l20 => k_is)
    (case c20 => k_is)
    (case k20 => k_is)
    (case a21 => k_is)
    (case l21 => k_is)
    (case c21 => k_is)
    (case k21 => k_is)
    (case z_isinstance => k_is)
    (case z_bool => k_is)
    (case z_int => k_is)
    (case z_len => k_is)
    (case z_tuple => k_is)
    (case z_str => k_is)
    (case z_all => k_is)
    (case z_range => k_is)
    (case z_list => k_is)
    (case cst0 => k_is)
    (case tta0 => k_is)
    (case ttl0 => k_is)
    (case ttv0_0 => k_is)
    (case ttv0_1 => k_is)
    (case ttv0_2 => k_is)
    (case ttv0_3 => k_is)
    (case ttv0_4 => k_is)
    (case ttv0_5 => k_is)
    (case tta1 => k_is)
    (case ttl1 => k_is)
    (case ttv1_0 => k_is)
    (case ttv1_1 => k_is)
    (case ttv1_2 => k_is)
    (case tta2 => k_is)
    (case ttl2 => k_is)
    (case ttv2_0 => k_is)
    (case ttv2_1 => k_is)
    (case ttv2_2 => k_is)
    (case ttv2_3 => k_is)
    (case ttk0 => k_keys)
    (case tts0 => decide)
    (case tte0 => rfl)
    (case ttk1 => k_keys)
    (case tts1 => decide)
    (case tte1 => rfl)
    (case ttk2 => k_keys)
    (case tts2 => decide)
    (case tte2 => rfl)

